import Derived.Laws.Externs
import Derived.Lib.Bytealg
import Derived.Maps.Own
import Derived.Maps.Range
import Derived.Sort.KeysCollected
import GoSem.ClaimChange
import Derived.OpenShut
import Derived.FnData
import Derived.ChangeArms
import Derived.Test.YtijehnelcbdlgaaGreatA5
import Derived.Test.YtijehnelcbdlgaaGreatA3
import Derived.Test.YtijehnelcbdlgaaGreatA1
import Derived.Test.YtijehnelcbdlgaaGreatA4
set_option linter.unusedVariables false
set_option linter.unusedSimpArgs false
section
namespace Go.Ab.Fa
variable {E:Env} {F:RF} {n:Nat}
theorem jk {ts:List AV} {x:Operand} {a:AV} (h:dZ E ts x=some a):f' E ts [x]=some [a]:=by simp [f',eB,h]
theorem D7 {ts:List AV} {x y:Operand} {a b:AV} (h:dZ E ts x=some a) (h':dZ E ts y=some b):f' E ts [x,y]=some [a,b]:=by simp [f',eB,h,h']
theorem Vj (v:AV):abi v=pa v:=by
 cases v with
 | str s=>show some (jc s)=some s.length;rw[fY]
 | _=>rfl
theorem Ol {h:ak} {size m:Nat} {v:AV} {l:List AV} (e:QL h size m v=some l):eO h size m v=some l:=by
 cases v with
 | aD=>
   obtain ⟨h1,e1⟩:=fM (show bc (Nat.beq m 0) (some []) none=some l from e)
   simp only[eO];rw[if_pos (mq h1)];exact e1
 | slice i o len c b=>
   obtain ⟨h1,e1⟩:=fM (show bc (Nat.ble m len) (ob none (fun obj=>yH (fun cs _ _=>bc (Nat.ble (o+m*size) (jc cs)) (some (s5 (s4 cs o) (m*size))) none) none obj) (h.get i)) none=some l from e)
   obtain ⟨obj,h2,e2⟩:=gR e1
   obtain ⟨cs,el,ro,rfl,e3⟩:=rh e2
   obtain ⟨h3,e4⟩:=fM e3
   have h1:=fN h1
   have h3:=fN h3
   rw[fY] at h3
   rw[qt,qq] at e4
   simp only[eO,h2]
   rw[if_pos h1]
   by_cases h0:m=0
   · subst h0
     rw[if_pos rfl]
     rw[Nat.zero_mul,List.take_zero] at e4
     exact e4
   · rw[if_neg h0,if_pos h3];exact e4
 | _=>exact e
theorem Ra {h:ak} {obj:aK} {f:ak→AV×ak} {p:AV×ak} (e:ob none (fun h'=>some (f h')) (h.new obj)=some p):∃h',h.new obj=some h'∧p=f h':=by
 obtain ⟨h',h1,e1⟩:=gR e
 exact ⟨h',h1,(Option.some.inj e1).symm⟩
theorem Vk {argTypes:Array TypeId} {sT xT elem:TypeId} {xd:TypeDesc} {size bytes:Nat} {z:AV} (h1:argTypes[0]? =some sT) (h2:argTypes[1]? =some xT) (h3:E.P.underlying sT=some (.slice elem)) (h4:E.P.underlying xT=some xd)
 (h5:nA xd=false) (h6:bQ E elem=some size) (h7:gD E elem=some bytes) (h8:fl E elem=some z) (h9:z.cells.length=size)
 {h:ak} {s x:AV} {p:AV×ak} (e:abj elem size bytes h s x=some p):cP E h argTypes s x=some p:=by
 obtain ⟨m,a1,e1⟩:=gR e
 rw[Vj] at a1
 obtain ⟨new,a2,e2⟩:=gR e1
 have a2:=Ol a2
 obtain ⟨a3,e3⟩:=fM e2
 obtain ⟨a4,e4⟩:=fM e3
 rw[ra,H8] at a3
 have a4:=mq a4
 rw[fY] at a4
 unfold cP
 simp only[h1,h2,h3,h4,h5,h6,h7,h8,a1,a2]
 rw[if_neg (by simp)]
 rw[if_pos ⟨h9,a3,a4⟩]
 rcases oN e4 with ⟨rfl,e5⟩ | ⟨i,o,len,cap,op,rfl,e5⟩
 · cases hm:Nat.beq m 0 with
   | true=>
     rw[hm,jC] at e5
     simp only;rw[if_pos (mq hm)];exact e5
   | false=>
     rw[hm,d_] at e5
     obtain ⟨a5,e6⟩:=fM e5
     have a5:(4*m+4096)*(bytes+1)≤1099511627776:=fN a5
     obtain ⟨h',a6,rfl⟩:=Ra e6
     simp only
     rw[if_neg (by intro ee;rw[ee] at hm;cases hm),if_pos a5]
     simp only[a6]
 · obtain ⟨obj,a5,e6⟩:=gR e5
   obtain ⟨cs,el,ro,rfl,e7⟩:=rh e6
   obtain ⟨a6,e8⟩:=rf e7
   subst a6
   simp only[a5]
   cases hc:Nat.ble (Nat.add len m) cap with
   | true=>
     rw[hc,jC] at e8
     have hc:len+m≤cap:=fN hc
     obtain ⟨a7,e9⟩:=fM e8
     have a7:o+(len+m)*size≤jc cs:=fN a7
     rw[fY] at a7
     rw[if_pos hc,if_pos a7,←Option.some.inj e9,FH];rfl
   | false=>
     rw[hc,d_] at e8
     have hc:cap<len+m:=kG hc
     obtain ⟨a7,e9⟩:=fM e8
     have a7:(4*(len+m)+4096)*(bytes+1)≤1099511627776:=fN a7
     obtain ⟨a8,e10⟩:=fM e9
     have a8:o+len*size≤jc cs:=fN a8
     rw[fY] at a8
     rw[if_neg (by omega)]
     cases op with
     | true=>
       rw[jC] at e10
       obtain ⟨a9,e11⟩:=fM e10
       obtain ⟨a10,e12⟩:=fM e11
       obtain ⟨a0,e12⟩:=fM e12
       have a0:o=0:=mq a0
       have a9:=mq a9
       have a10:o+cap*size=jc cs:=mq a10
       rw[fY] at a10
       obtain ⟨h',a11,rfl⟩:=Ra e12
       rw[nX,qt,qq] at a11
       rw[if_pos ⟨a7,a8,fun _=>⟨a9,a10,a0⟩⟩]
       rw[if_pos rfl]
       have YW:(h.put i none).new (.cells ((cs.drop o).take (len*size)++new) elem false)=some h':=a11
       simp only[YW];rfl
     | false=>
       rw[d_] at e10
       obtain ⟨h',a11,rfl⟩:=Ra e10
       rw[nX,qt,qq] at a11
       rw[if_pos ⟨a7,a8,fun hh=>by cases hh⟩]
       rw[if_neg (by simp)]
       have YW:h.new (.cells ((cs.drop o).take (len*size)++new) elem false)=some h':=a11
       simp only[YW];rfl
theorem lP {b:Builtin} (h1:b≠ .len) (h2:b≠ .cap) (h3:b≠ .max) (h4:b≠ .min) (a:Array Operand) (t:Array TypeId):ta E (.call ⟨.builtin b,a,t⟩):=by
 cases b<;>first | exact absurd rfl h1 | exact absurd rfl h2 | exact absurd rfl h3 | exact absurd rfl h4 | exact ⟨fun _=>rfl,fun _ _=>rfl,fun _=>rfl⟩
theorem Om (a:Array Operand) (t:Array TypeId):gu E F n (.call ⟨.builtin .append,a,t⟩) (match a.toList with
 | [s,x]=>wO E F n s (fun gs=>wO E F n x (fun gx=>QM E t gs gx) .bad) .bad
 | _=> .bad):=by
 have nn:ta E (.call ⟨.builtin .append,a,t⟩):=lP (by simp) (by simp) (by simp) (by simp) a t
 generalize hl:a.toList=l
 match l with
 | []=>trivial
 | [_]=>trivial
 | _::_::_::_=>trivial
 | [s,x]=>
   simp only
   rcases bP E F n s (fun gs=>wO E F n x (fun gx=>QM E t gs gx) .bad) (.bad:Kd F.T) with h | ⟨gs,h,hs⟩<;>rw[h]
   · trivial
   rcases bP E F n x (fun gx=>QM E t gs gx) (.bad:Kd F.T) with h | ⟨gx,h,hx⟩<;>rw[h]
   · trivial
   unfold QM
   simp only[g5,Array.getElem?_toList,iQ,oQ,QY,yO]
   have fin:∀(f:F.T→ak→Option (AV×ak)),(∀r h p,f r h=some p→cP E h t (gs r) (gx r)=some p)→gu E F n (.call ⟨.builtin .append,a,t⟩) (.wr f):=by
    intro f hf
    refine ⟨nn,fun call r h rc o p ho e=>?_⟩
    simp only[dr,ho,hl,D7 (hs r) (hx r),hf r h p e]
   cases h1:t[0]? with
   | none=>trivial
   | some sT=>cases h2:t[1]? with
     | none=>trivial
     | some xT=>
       simp only
       cases h3:E.P.underlying sT with
       | none=>trivial
       | some sd=>cases h4:E.P.underlying xT with
         | none=>cases sd<;>trivial
         | some xd=>cases sd with
           | slice elem=>
             simp only
             cases h5:nA xd with
             | true=>
               rw[if_pos rfl]
               apply fin
               intro r h p e
               unfold cP
               simp only[h1,h2,h3,h4,h5]
               rw[if_pos trivial];exact e
             | false=>
               rw[if_neg (by simp)]
               cases h6:bQ E elem with
               | none=>trivial
               | some size=>cases h7:gD E elem with
                 | none=>trivial
                 | some bytes=>cases h8:fl E elem with
                   | none=>trivial
                   | some z=>
                     simp only
                     by_cases h9:z.cells.length=size
                     · rw[if_pos h9]
                       exact fin _ fun r h p e=>Vk h1 h2 h3 h4 h5 h6 h7 h8 h9 e
                     · rw[if_neg h9];trivial
           | _=>trivial
theorem MH (a:Array Operand) (t:Array TypeId):gu E F n (.call ⟨.builtin .copy,a,t⟩) (match a.toList with
 | [s,x]=>wO E F n s (fun gs=>wO E F n x (fun gx=> .wr fun r h=>uW E h t (gs r) (gx r)) .bad) .bad
 | _=> .bad):=by
 have nn:ta E (.call ⟨.builtin .copy,a,t⟩):=lP (by simp) (by simp) (by simp) (by simp) a t
 generalize hl:a.toList=l
 match l with
 | []=>trivial
 | [_]=>trivial
 | _::_::_::_=>trivial
 | [s,x]=>
   simp only
   rcases bP E F n s (fun gs=>wO E F n x (fun gx=>(.wr fun r h=>uW E h t (gs r) (gx r):Kd F.T)) .bad) (.bad:Kd F.T) with h | ⟨gs,h,hs⟩<;>rw[h]
   · trivial
   rcases bP E F n x (fun gx=>(.wr fun r h=>uW E h t (gs r) (gx r):Kd F.T)) (.bad:Kd F.T) with h | ⟨gx,h,hx⟩<;>rw[h]
   · trivial
   refine ⟨nn,fun call r h rc o p ho e=>?_⟩
   simp only[dr,ho,hl,D7 (hs r) (hx r),e]
theorem Kz (a:Array Operand) (t:Array TypeId):gu E F n (.call ⟨.builtin .recover,a,t⟩) (.uz fun _ _ h rc=>match rc with
 | .ja x=> .rT x
 | .G4 _=> .fail "" none
 | _=> .val .nilIface h):=by
 refine ⟨lP (by simp) (by simp) (by simp) (by simp) a t,fun fc call _ r h rc o ho=>?_⟩
 simp only[dr,ho]
 cases rc<;>first | trivial | rfl
theorem YX (a:Array Operand) (t:Array TypeId):gu E F n (.call ⟨.builtin .len,a,t⟩) (match jd t.toList 0,a.toList with
 | some t,[x]=>wO E F n x (fun g=>match kf E.P t with
   | some .string=> .gV fun r=>qY (fun s=>some (.int .i64 (Int.ofNat (jc s)))) none (g r)
   | some (.array m _)=> .gV fun _=>some (.int .i64 (Int.ofNat m))
   | some (.slice _)=> .gV fun r=>jR (some (.int .i64 (Int.ofNat 0))) (fun _ _ m _ _=>some (.int .i64 (Int.ofNat m))) (vZ (some (.int .i64 (Int.ofNat 0))) none (g r)) (g r)
   | some (.map _ _)=> .red fun r h=>Mp h (g r)
   | _=> .bad) .bad
 | _,_=> .bad):=by
 rw[g5,Array.getElem?_toList]
 cases ht:t[0]? with
 | none=>trivial
 | some tt=>
   generalize hl:a.toList=l
   match l with
   | []=>trivial
   | _::_::_=>trivial
   | [x]=>
     simp only[iQ]
     rcases bP E F n x (fun g=>match E.P.underlying tt with
      | some .string=>(.gV fun r=>qY (fun s=>some (.int .i64 (Int.ofNat (jc s)))) none (g r):Kd F.T)
      | some (.array m _)=> .gV fun _=>some (.int .i64 (Int.ofNat m))
      | some (.slice _)=> .gV fun r=>jR (some (.int .i64 (Int.ofNat 0))) (fun _ _ m _ _=>some (.int .i64 (Int.ofNat m))) (vZ (some (.int .i64 (Int.ofNat 0))) none (g r)) (g r)
      | some (.map _ _)=> .red fun r h=>Mp h (g r)
      | _=> .bad) .bad with h | ⟨g,h,hg⟩<;>rw[h]
     · trivial
     cases hu:E.P.underlying tt with
     | none=>trivial
     | some d=>cases d with
       | string=>
         intro r v e
         obtain ⟨s,e1,e2⟩:=oM e
         simp only[bp,ht,hl,jk (hg r),hu,e1]
         rw[←e2,fY];rfl
       | array m el=>
         intro r v e
         simp only[bp,ht,hl,jk (hg r),hu]
         exact e
       | slice el=>
         intro r v e
         rcases H7 e with ⟨e1,e2⟩ | ⟨i,o,l,c,b,e1,e2⟩ | ⟨e1,e2⟩
         · simp only[bp,ht,hl,jk (hg r),hu,e1];exact e2
         · simp only[bp,ht,hl,jk (hg r),hu,e1];exact e2
         · simp only[bp,ht,hl,jk (hg r),hu,e1];exact e2
       | map key el=>
         intro r h v e
         have e:Mp h (g r)=some v:=e
         generalize hm:g r=m at e
         cases m with
         | dQ=>exact .inl (by simp only[bp,ht,hl,jk (hg r),hu,hm];exact e)
         | map i=>
           refine .inr ⟨by simp only[bp,ht,hl,jk (hg r),hu,hm],?_⟩
           obtain ⟨o,h3,h4⟩:=gR (show ob none (fun o=>U1 (fun es=>some (AV.int .i64 (Int.ofNat (jc es)))) none o) (h.get i)=some v from e)
           cases o with
           | map es c=>
             have h4:some (AV.int .i64 (Int.ofNat (jc es)))=some v:=h4
             simp only[dM,ht,hl,jk (hg r),hu,hm,h3]
             rw[←h4,fY];rfl
           | _=>cases h4
         | _=>cases e
       | _=>trivial
theorem YY (a:Array Operand) (t:Array TypeId):gu E F n (.call ⟨.builtin .cap,a,t⟩) (match jd t.toList 0,a.toList with
 | some t,[x]=>wO E F n x (fun g=>match kf E.P t with
   | some (.slice _)=> .gV fun r=>jR (some (.int .i64 (Int.ofNat 0))) (fun _ _ _ c b=>bc b none (some (.int .i64 (Int.ofNat c)))) none (g r)
   | _=> .bad) .bad
 | _,_=> .bad):=by
 rw[g5,Array.getElem?_toList]
 cases ht:t[0]? with
 | none=>trivial
 | some tt=>
   generalize hl:a.toList=l
   match l with
   | []=>trivial
   | _::_::_=>trivial
   | [x]=>
     simp only[iQ]
     rcases bP E F n x (fun g=>match E.P.underlying tt with
      | some (.slice _)=>(.gV fun r=>jR (some (.int .i64 (Int.ofNat 0))) (fun _ _ _ c b=>bc b none (some (.int .i64 (Int.ofNat c)))) none (g r):Kd F.T)
      | _=> .bad) .bad with h | ⟨g,h,hg⟩<;>rw[h]
     · trivial
     cases hu:E.P.underlying tt with
     | none=>trivial
     | some d=>cases d with
       | slice el=>
         intro r v e
         rcases oN e with ⟨e1,e2⟩ | ⟨i,o,l,c,b,e1,e2⟩
         · simp only[bp,ht,hl,jk (hg r),hu,e1];exact e2
         · obtain ⟨rfl,e3⟩:=rf e2
           simp only[bp,ht,hl,jk (hg r),hu,e1];exact e3
       | _=>trivial
theorem On (f:FuncId) (a:Array Operand) (t:Array TypeId):gu E F n (.call ⟨.value (.func f),a,t⟩) (wL E F n a.toList (fun gs=>match E.mO f with
 | some e=> .gV fun r=>e (gs r)
 | none=>match E.iN f with
   | some g=> .wr fun r h=>g (gs r) h
   | none=> .call (.fn f) gs) .bad):=by
 rcases uf E F n a.toList (fun gs=>match E.mO f with
  | some e=>(.gV fun r=>e (gs r):Kd F.T)
  | none=>match E.iN f with
    | some g=> .wr fun r h=>g (gs r) h
    | none=> .call (.fn f) gs) .bad with h | ⟨gs,h,hg⟩<;>rw[h]
 · trivial
 cases hp:E.mO f with
 | some e=>
   intro r v h
   simp only[bp,hp,hg];exact h
 | none=>
   have nn:ta E (.call ⟨.value (.func f),a,t⟩):=⟨fun _=>by simp only[bp,hp],fun _ _=>rfl,fun _=>rfl⟩
   have hc:∀r,callee E (eU F n r) ⟨.value (.func f),a,t⟩=some (.fn f,gs r):=by
    intro r
    simp only[callee,hg,dZ]
    simp
   cases hs:E.iN f with
   | some g=>
     refine ⟨nn,fun call r h rc o p ho e=>?_⟩
     have e':g (gs r) h=some p:=e
     simp only[dr,ho,hc,j9,hs,e']
   | none=>
     refine ⟨nn,fun call r h rc o ho=>?_⟩
     simp only[dr,ho,hc,j9,hs]
     cases call (.fn f) (gs r) h<;>rfl
theorem BJ {a b:jn} (h1:∀v h',a= .ret v h'→b= .ret v h') (h2:∀v h',a= .panic v h'→b= .panic v h'):Xo (m5 a) (m5 b):=by
 cases a with
 | ret v h=>rw[h1 v h rfl];rfl
 | panic v h=>rw[h2 v h rfl];rfl
 | fail _ _=>trivial
theorem vG (x:Operand) (hx:∀f,x≠ .func f) (a:Array Operand) (t:Array TypeId):gu E F n (.call ⟨.value x,a,t⟩) (wO E F n x (fun gf=>wL E F n a.toList (fun gs=> .uz fun call r h _=>Mm
 (fun g first captured=>ob (m5 (call (.fn g) (lF first (lF (gs r) captured)) h)) (fun sp=>ob (.fail "" none) (fun p=> .val p.1 p.2) (sp (lF first (lF (gs r) captured)) h)) (E.iN g))
 (fun l=>m5 (call (.yl l) (gs r) h)) (.fail "" none) (gf r)) .bad) .bad):=by
 have nn:ta E (.call ⟨.value x,a,t⟩):=by
  cases x with
  | func f=>exact absurd rfl (hx f)
  | _=>exact ⟨fun _=>rfl,fun _ _=>rfl,fun _=>rfl⟩
 let K:(F.T→AV)→(F.T→List AV)→Kd F.T:=fun gf gs=> .uz fun call r h _=>Mm
  (fun g first captured=>ob (m5 (call (.fn g) (lF first (lF (gs r) captured)) h)) (fun sp=>ob (.fail "" none) (fun p=> .val p.1 p.2) (sp (lF first (lF (gs r) captured)) h)) (E.iN g))
  (fun l=>m5 (call (.yl l) (gs r) h)) (.fail "" none) (gf r)
 show gu E F n _ (wO E F n x (fun gf=>wL E F n a.toList (fun gs=>K gf gs) .bad) .bad)
 rcases bP E F n x (fun gf=>wL E F n a.toList (fun gs=>K gf gs) .bad) .bad with h | ⟨gf,h,hf⟩<;>rw[h]
 · trivial
 rcases uf E F n a.toList (fun gs=>K gf gs) .bad with h | ⟨gs,h,hg⟩<;>rw[h]
 · trivial
 refine ⟨nn,fun fc call hle r h rc o ho=>?_⟩
 have ec:∀R,callee E (eU F n r) ⟨.value x,a,t⟩=R→dr E call (eU F n r) h rc o=(match R with
  | some (f,args)=>match j9 E f with
    | some g=>(match g args h with | some (x,h')=> .val x h' | none=> .fail "eff" (some o))
    | none=>m5 (call f args h)
  | none=> .fail "callee" (some o)):=by
  intro R hR
  simp only[dr,ho,hR]
  cases R with
  | none=>rfl
  | some p=>
    obtain ⟨f,args⟩:=p
    simp only
    cases j9 E f with
    | none=>simp only;cases call f args h<;>rfl
    | some g=>rfl
 show Xo (Mm _ _ _ (gf r)) _
 cases hv:gf r with
 | func g first captured=>
   have hc:callee E (eU F n r) ⟨.value x,a,t⟩=some (.fn g,first++gs r++captured):=by
    simp only[callee,hf,hg,hv]
   rw[ec _ hc]
   have ha:lF first (lF (gs r) captured)=first++gs r++captured:=by rw[nX,nX,List.append_assoc]
   show Xo (ob (m5 (fc (.fn g) (lF first (lF (gs r) captured)) h)) (fun sp=>ob (.fail "" none) (fun p=> .val p.1 p.2) (sp (lF first (lF (gs r) captured)) h)) (E.iN g)) _
   rw[ha]
   simp only[j9]
   cases hs:E.iN g with
   | none=>exact BJ (hle _ _ _).1 (hle _ _ _).2
   | some sp=>
     show Xo (ob (.fail "" none) (fun p=> .val p.1 p.2) (sp (first++gs r++captured) h)) _
     simp only
     cases sp (first++gs r++captured) h with
     | none=>trivial
     | some p=>rfl
 | sC l=>
   have hc:callee E (eU F n r) ⟨.value x,a,t⟩=some (.yl l,gs r):=by
    simp only[callee,hf,hg,hv]
   rw[ec _ hc]
   simp only[j9]
   exact BJ (hle _ _ _).1 (hle _ _ _).2
 | _=>trivial
theorem Oo (x:Operand) (name:String) (a:Array Operand) (t:Array TypeId):gu E F n (.call ⟨.invoke x name,a,t⟩) (wO E F n x (fun gx=>wL E F n a.toList (fun gs=> .uz fun call r h _=>qZ
 (fun t v=>ob (.fail "" none) (fun f=>m5 (call (.fn f) (v::gs r) h)) (H4 E t name)) (.fail "" none) (gx r)) .bad) .bad):=by
 have nn:ta E (.call ⟨.invoke x name,a,t⟩):=⟨fun _=>rfl,fun _ _=>rfl,fun _=>rfl⟩
 let K:(F.T→AV)→(F.T→List AV)→Kd F.T:=fun gx gs=> .uz fun call r h _=>qZ
  (fun t v=>ob (.fail "" none) (fun f=>m5 (call (.fn f) (v::gs r) h)) (H4 E t name)) (.fail "" none) (gx r)
 show gu E F n _ (wO E F n x (fun gx=>wL E F n a.toList (fun gs=>K gx gs) .bad) .bad)
 rcases bP E F n x (fun gx=>wL E F n a.toList (fun gs=>K gx gs) .bad) .bad with h | ⟨gx,h,hx⟩<;>rw[h]
 · trivial
 rcases uf E F n a.toList (fun gs=>K gx gs) .bad with h | ⟨gs,h,hg⟩<;>rw[h]
 · trivial
 refine ⟨nn,fun fc call hle r h rc o ho=>?_⟩
 show Xo (qZ _ _ (gx r)) _
 cases hv:gx r with
 | iface u v=>
   show Xo (ob (.fail "" none) (fun f=>m5 (fc (.fn f) (v::gs r) h)) (H4 E u name)) _
   cases hm:H4 E u name with
   | none=>trivial
   | some f=>
     have T8:wq E u name=some f:=hm
     have ec:dr E call (eU F n r) h rc o=m5 (call (.fn f) (v::gs r) h):=by
      simp only[dr,ho,hx,hg,hv,T8]
      cases call (.fn f) (v::gs r) h<;>rfl
     rw[ec]
     exact BJ (hle _ _ _).1 (hle _ _ _).2
 | _=>trivial
theorem Rb (c:Call):gu E F n (.call c) (Xl E F n c (.call c)):=by
 obtain ⟨cA,a,t⟩:=c
 cases cA with
 | value x=>cases x with
   | func f=>exact On f a t
   | tmp x=>exact vG (.tmp x) (by simp) a t
   | const x=>exact vG (.const x) (by simp) a t
   | global x=>exact vG (.global x) (by simp) a t
 | invoke r m=>exact Oo r m a t
 | builtin b=>cases b with
   | append=>exact Om a t
   | copy=>exact MH a t
   | recover=>exact Kz a t
   | len=>exact YX a t
   | cap=>exact YY a t
   | max=>exact fun r v e=>e
   | min=>exact fun r v e=>e
   | _=>trivial
theorem Ie (op:Op):gu E F n op (vb E F n op):=by
 cases op with
 | move x=>
   show gu E F n _ (wO E F n x .G8 .bad)
   rcases bP E F n x .G8 (.bad:Kd F.T) with h | ⟨g,h,hg⟩<;>rw[h]
   · trivial
   · exact hg
 | assign x=>
   show gu E F n _ (wO E F n x .G8 .bad)
   rcases bP E F n x .G8 (.bad:Kd F.T) with h | ⟨g,h,hg⟩<;>rw[h]
   · trivial
   · exact hg
 | pick c a b=>exact Vg c a b
 | binOp op t x y yt=>
   show gu E F n _ (wO E F n x (fun gx=>wO E F n y (fun gy=>fZ op (me E op t (isConst x) (isConst y)) gx gy) .bad) .bad)
   rcases bP E F n x (fun gx=>wO E F n y (fun gy=>fZ op (me E op t (isConst x) (isConst y)) gx gy) .bad) (.bad:Kd F.T) with h | ⟨gx,h,hx⟩<;>rw[h]
   · trivial
   rcases bP E F n y (fun gy=>fZ op (me E op t (isConst x) (isConst y)) gx gy) (.bad:Kd F.T) with h | ⟨gy,h,hy⟩<;>rw[h]
   · trivial
   exact Ve op t x y yt gx gy hx hy
 | unOp op t x=>
   show gu E F n _ (wO E F n x (unK op) .bad)
   rcases bP E F n x (unK op) (.bad:Kd F.T) with h | ⟨g,h,hg⟩<;>rw[h]
   · trivial
   exact YR op t x g hg
 | fieldAddr s x f=>exact FJ s x f
 | load t a=>exact Vf t a
 | store t a x=>exact Q6 t a x
 | nilCheck x=>exact H_ x
 | extract x i=>exact Kx x i
 | field s x f=>exact Q3 s x f
 | indexAddr t x ix=>exact FK t x ix
 | index t x ix=>exact Q4 t x ix
 | slice t x lo hi mx=>cases mx with
   | none=>exact Q5 t x lo hi
   | some m=>exact fun r v e=>e
 | convert s d x=>exact Ky s d x
 | makeInterface t x=>exact yP t x
 | makeFunc f a b=>cases f with
   | func f=>exact Ia f a b
   | _=>trivial
 | alloc t=>exact Q7 t
 | box t x=>exact YV t x
 | buildSlice t len parts=>exact Dg t len parts
 | makeSlice t l c=>exact FL t l c
 | makeMap t r=>cases r with
   | none=>exact ⟨fun _=>rfl,fun _ _=>rfl,fun r p e=>e⟩
   | some x=>exact ⟨fun _=>rfl,fun _ _=>rfl,fun r p e=>e⟩
 | range t x=>exact ⟨fun _=>rfl,fun _ _=>rfl,fun r p e=>e⟩
 | lookup t x ix ok=>exact Oj t x ix ok
 | build t parts=>exact Q9 t parts
 | typeAssert x a b ok=>exact fun r v e=>e
 | mapUpdate t m k x=>exact FM t m k x
 | insert t m k x=>exact Ok t m k x
 | next it s=>exact Vi it s
 | panic x=>exact Q_ x
 | defer c=>exact Q' c
 | call c=>exact Rb c
 | _=>trivial
end Go.Ab.Fa
end
section
namespace Go.Ab.Fa
variable {E:Env} {F:RF} {n:Nat}
def sm (_E:Env) (F:RF) (n:Nat) (o:FO F.T) (out:Out):Prop:=match o with
 | .HZ r h y=>out= .ok .normal ⟨eU F n r,h,y.ds,y.rc⟩
 | .jmp e r h y=>e≠ .normal∧out= .ok e ⟨eU F n r,h,y.ds,y.rc⟩
 | .bad=>True
theorem FN {call:a_} {s:St} {o:Oper} {v:AV} (h:bp E s.ts o.op=some v):EL E call s o= .ok .normal {s with ts:=dR s.ts o.dst v}:=by
 simp only[EL,h]
theorem Vl {call:a_} {s:St} {o:Oper} {v:AV} (h0:bp E s.ts o.op=none) (h:dM E s.ts s.h o.op=some v):EL E call s o= .ok .normal {s with ts:=dR s.ts o.dst v}:=by
 simp only[EL,h0,h]
theorem FP {call:a_} {s:St} {o:Oper} (nn:ta E o.op):EL E call s o=(match dr E call s.ts s.h s.rc o with
 | .val v h'=> .ok .normal {s with ts:=dR s.ts o.dst v,h:=h'}
 | .defer d=> .ok .normal {s with ts:=dR s.ts o.dst AV.undef,ds:=d::s.ds}
 | .rT v=> .ok .normal {s with ts:=dR s.ts o.dst v,rc:= .done}
 | .panic v h'=> .ok (.panic v) {s with h:=h'}
 | .fail why q=> .fail why q):=by
 simp only[EL,nn.1,nn.2.1,nn.2.2]
 generalize dr E call s.ts s.h s.rc o=x
 cases x<;>rfl
noncomputable def abo (E:Env) (call:a_) (ops:Array Oper) (rest:List Oper) (out:Out):Out:=match out with
 | .ok .normal s'=>kB E call ops rest s'
 | r=>r
theorem Vm {ops:Array Oper} {o:Oper} {rest:List Oper} {kd:Kd F.T} {s:AV→F.T→F.T} {j:I F.T} {fc call:a_} (hle:kH fc call) (hk:gu E F n o.op kd)
 (hs:∀v r,dR (eU F n r) o.dst v=eU F n (s v r)) (hj:∀r h y,sm E F n (j.run fc r h y) (kB E call ops rest ⟨eU F n r,h,y.ds,y.rc⟩)) (r:F.T) (h:ak) (y:Y):
 sm E F n ((Kr kd s j).run fc r h y) (abo E call ops rest (EL E call ⟨eU F n r,h,y.ds,y.rc⟩ o)):=by
 cases kd with
 | G8 g=>
   rw[FN (s:=⟨eU F n r,h,y.ds,y.rc⟩) (hk r)]
   show sm E F n (j.run fc (s (g r) r) h y) (kB E call ops rest ⟨dR (eU F n r) o.dst (g r),h,y.ds,y.rc⟩)
   rw[hs];exact hj _ _ _
 | gV f=>
   show sm E F n (ob .bad (fun v=>j.run fc (s v r) h y) (f r)) _
   cases hf:f r with
   | none=>trivial
   | some v=>
     rw[FN (s:=⟨eU F n r,h,y.ds,y.rc⟩) (hk r v hf)]
     show sm E F n (j.run fc (s v r) h y) (kB E call ops rest ⟨dR (eU F n r) o.dst v,h,y.ds,y.rc⟩)
     rw[hs];exact hj _ _ _
 | red f=>
   show sm E F n (ob .bad (fun v=>j.run fc (s v r) h y) (f r h)) _
   cases hf:f r h with
   | none=>trivial
   | some v=>
     rcases hk r h v hf with h0 | ⟨h0,h1⟩
     · rw[FN (s:=⟨eU F n r,h,y.ds,y.rc⟩) h0]
       show sm E F n (j.run fc (s v r) h y) (kB E call ops rest ⟨dR (eU F n r) o.dst v,h,y.ds,y.rc⟩)
       rw[hs];exact hj _ _ _
     rw[Vl (s:=⟨eU F n r,h,y.ds,y.rc⟩) h0 h1]
     show sm E F n (j.run fc (s v r) h y) (kB E call ops rest ⟨dR (eU F n r) o.dst v,h,y.ds,y.rc⟩)
     rw[hs];exact hj _ _ _
 | sH f=>
   obtain ⟨h0,h1,h2⟩:=hk
   show sm E F n (ob .bad (fun p=>ob .bad (fun h'=>j.run fc (s (p.2 h.nx) r) h' y) (h.new p.1)) (f r)) _
   cases hf:f r with
   | none=>trivial
   | some p=>
     obtain ⟨obj,mk⟩:=p
     show sm E F n (ob .bad (fun h'=>j.run fc (s (mk h.nx) r) h' y) (h.new obj)) _
     cases hh:h.new obj with
     | none=>trivial
     | some h'=>
       have:EL E call ⟨eU F n r,h,y.ds,y.rc⟩ o= .ok .normal ⟨dR (eU F n r) o.dst (mk h.nx),h',y.ds,y.rc⟩:=by
        simp only[EL,h0,h1,h2 r _ hf,hh]
       rw[this,hs];exact hj _ _ _
 | wr f=>
   obtain ⟨nn,h1⟩:=hk
   show sm E F n (ob .bad (fun p=>j.run fc (s p.1 r) p.2 y) (f r h)) _
   cases hf:f r h with
   | none=>trivial
   | some p=>
     rw[FP nn,h1 call r h y.rc o p rfl hf]
     show sm E F n (j.run fc (s p.1 r) p.2 y) (kB E call ops rest ⟨dR (eU F n r) o.dst p.1,p.2,y.ds,y.rc⟩)
     rw[hs];exact hj _ _ _
 | call g args=>
   obtain ⟨nn,h1⟩:=hk
   rw[FP nn,h1 call r h y.rc o rfl]
   show sm E F n (jn.rec (motive:=fun _=>FO F.T) (fun v h'=>j.run fc (s v r) h' y) (fun v h'=> .jmp (.panic v) r h' y) (fun _ _=> .bad) (fc g (args r) h)) _
   cases hc:fc g (args r) h with
   | fail _ _=>trivial
   | ret v h'=>
     rw[(hle _ _ _).1 v h' hc]
     show sm E F n (j.run fc (s v r) h' y) (kB E call ops rest ⟨dR (eU F n r) o.dst v,h',y.ds,y.rc⟩)
     rw[hs];exact hj _ _ _
   | panic v h'=>
     rw[(hle _ _ _).2 v h' hc]
     exact ⟨by simp,rfl⟩
 | uz f=>
   obtain ⟨nn,h1⟩:=hk
   rw[FP nn]
   have h2:=h1 fc call hle r h y.rc o rfl
   show sm E F n (ym.rec (motive:=fun _=>FO F.T) (fun v h'=>j.run fc (s v r) h' y) (fun d=>j.run fc (s AV.undef r) h ⟨d::y.ds,y.rc⟩) (fun v=>j.run fc (s v r) h ⟨y.ds,.done⟩)
    (fun v h'=> .jmp (.panic v) r h' y) (fun _ _=> .bad) (f fc r h y.rc)) _
   cases he:f fc r h y.rc with
   | fail _ _=>trivial
   | val v h'=>
     rw[he] at h2
     have h2:dr E call (eU F n r) h y.rc o= .val v h':=h2
     rw[h2]
     show sm E F n (j.run fc (s v r) h' y) (kB E call ops rest ⟨dR (eU F n r) o.dst v,h',y.ds,y.rc⟩)
     rw[hs];exact hj _ _ _
   | defer d=>
     rw[he] at h2
     have h2:dr E call (eU F n r) h y.rc o= .defer d:=h2
     rw[h2]
     show sm E F n (j.run fc (s AV.undef r) h ⟨d::y.ds,y.rc⟩) (kB E call ops rest ⟨dR (eU F n r) o.dst AV.undef,h,d::y.ds,y.rc⟩)
     rw[hs];exact hj _ _ ⟨d::y.ds,y.rc⟩
   | rT v=>
     rw[he] at h2
     have h2:dr E call (eU F n r) h y.rc o= .rT v:=h2
     rw[h2]
     show sm E F n (j.run fc (s v r) h ⟨y.ds,.done⟩) (kB E call ops rest ⟨dR (eU F n r) o.dst v,h,y.ds,.done⟩)
     rw[hs];exact hj _ _ ⟨y.ds,.done⟩
   | panic v h'=>
     rw[he] at h2
     have h2:dr E call (eU F n r) h y.rc o= .panic v h':=h2
     rw[h2]
     exact ⟨by simp,rfl⟩
 | bad=>trivial
def yQ (ts:List AV) (d:Nat) (want:Bool):Bool:=match ts[d]? with
 | some (.bool b)=>b==want
 | _=>false
theorem zJ {ts:List AV} {d:Nat} (h:ts.length≤d) (want:Bool):yQ ts d want=false:=by
 unfold yQ;rw[List.getElem?_eq_none h]
theorem zK {ts:List AV} {d:Nat} {v:AV} (h:ts[d]? =some v) (want:Bool):yQ ts d want=jQ (fun b=>b==want) false v:=by
 unfold yQ;rw[h];cases v<;>rfl
theorem wY (ops:Array Oper) (ts:List AV) (o:Oper) {j:Nat} {want:Bool} (hg:o.guard=some (j,want)):cu ops ts o=(match (ops[j]?).bind (·.dst) with
 | some d=>match ts[d]? with
   | some (.bool b)=>b==want
   | _=>false
 | none=>false):=by simp only[cu,hg];rfl
theorem Rc (ops:Array Oper) (j:Nat):ob none (fun p=>p.dst) (jd ops.toList j)=(ops[j]?).bind (·.dst):=by
 rw[g5,Array.getElem?_toList];cases ops[j]? <;>rfl
theorem Rd (_hn:n≤F.N) (ops:Array Oper) (o:Oper) (a b:I F.T) (call:a_) (r:F.T) (h:ak) (y:Y):
 (Ms F n ops o a b).run call r h y=bif cu ops (eU F n r) o then a.run call r h y else b.run call r h y:=by
 unfold Ms
 cases hg:o.guard with
 | none=>simp only[cu,hg];rfl
 | some p=>
   obtain ⟨j,want⟩:=p
   rw[wY ops _ o hg]
   simp only[Rc]
   cases (ops[j]?).bind (·.dst) with
   | none=>rfl
   | some d=>
     show (bc (Nat.ble n d) b (Kt (F.get d).f want a b)).run call r h y=bif yQ (eU F n r) d want then a.run call r h y else b.run call r h y
     cases hd:Nat.ble n d with
     | true=>
       rw[zJ (by rw[iP];exact fN hd)];rfl
     | false=>
       rw[zK (tZ F n r (kG hd)),d_]
       cases want with
       | true=>
         show jQ (fun t=>bc t (a.run call r h y) (b.run call r h y)) (b.run call r h y) ((F.get d).f r)=_
         cases (F.get d).f r with
         | bool t=>cases t<;>rfl
         | _=>rfl
       | false=>
         show jQ (fun t=>bc t (b.run call r h y) (a.run call r h y)) (b.run call r h y) ((F.get d).f r)=_
         cases (F.get d).f r with
         | bool t=>cases t<;>rfl
         | _=>rfl
theorem Ig (_hn:n≤F.N) (ops:Array Oper) (o:Oper) (a b:D F.T) (call:a_) (r:F.T) (h:ak) (y:Y):
 (zG F n ops o a b).run call r h y=bif cu ops (eU F n r) o then a.run call r h y else b.run call r h y:=by
 unfold zG
 cases hg:o.guard with
 | none=>simp only[cu,hg];rfl
 | some p=>
   obtain ⟨j,want⟩:=p
   rw[wY ops _ o hg]
   simp only[Rc]
   cases (ops[j]?).bind (·.dst) with
   | none=>rfl
   | some d=>
     show (bc (Nat.ble n d) b (QP (F.get d).f want a b)).run call r h y=bif yQ (eU F n r) d want then a.run call r h y else b.run call r h y
     cases hd:Nat.ble n d with
     | true=>
       rw[zJ (by rw[iP];exact fN hd)];rfl
     | false=>
       rw[zK (tZ F n r (kG hd)),d_]
       cases want with
       | true=>
         show jQ (fun t=>bc t (a.run call r h y) (b.run call r h y)) (b.run call r h y) ((F.get d).f r)=_
         cases (F.get d).f r with
         | bool t=>cases t<;>rfl
         | _=>rfl
       | false=>
         show jQ (fun t=>bc t (b.run call r h y) (a.run call r h y)) (b.run call r h y) ((F.get d).f r)=_
         cases (F.get d).f r with
         | bool t=>cases t<;>rfl
         | _=>rfl
theorem BK (hn:n≤F.N) {fc call:a_} (hle:kH fc call) (ops:Array Oper):∀(l:List Oper) (r:F.T) (h:ak) (y:Y),
 sm E F n ((uc E F n ops l).run fc r h y) (kB E call ops l ⟨eU F n r,h,y.ds,y.rc⟩)
 | [],r,h,y=>rfl
 | o::rest,r,h,y=>by
   have ih:=BK hn hle ops rest
   show sm E F n ((QN E F n ops o (uc E F n ops rest)).run fc r h y) _
   unfold QN
   obtain ⟨s,h1,hs⟩:=MF F n hn o.dst (fun s=>Ms F n ops o (Kr (vb E F n o.op) s (uc E F n ops rest)) (Xm s (uc E F n ops rest)))
   rw[h1,Rd hn]
   rw[kB]
   cases hw:cu ops (eU F n r) o with
   | true=>
     rw[if_pos rfl]
     exact Vm hle (Ie o.op) hs ih r h y
   | false=>
     rw[if_neg (by simp)]
     show sm E F n ((uc E F n ops rest).run fc (s AV.undef r) h y) _
     simp only[hs]
     exact ih _ _ _
def madeOf:TK→Option Nat
 | .sH n _=>some n
 | _=>none
theorem wZ (x:Step) (t:List Step):qL (x::t)=match madeOf x.kind with | none=>qL t | some i=>i::qL t:=by
 show List.filterMap (fun x:Step=>madeOf x.kind) (x::t)=_
 rw[List.filterMap_cons];cases madeOf x.kind<;>rfl
inductive pz (E:Env) (ops:Array Oper) (pl:mj):List Of→List Step→Prop
 | nil:pz E ops pl [] []
 | skip {x:Step} {c:List Of} {t:List Step} (hs:∀h,jN E ops x h=true) (hm:madeOf x.kind=none) (ht:pz E ops pl c t):pz E ops pl c (x::t)
 | Vn {x:Step} {c0:Of} {c:List Of} {t:List Step} (hk:c0.k=x.k) (hl:c0.m=kC pl.bE pl.an x.i+1 - x.k) (hm:madeOf x.kind=c0.made)
  (hs:∀h,c0.f h=true→jN E ops x h=true) (ht:pz E ops pl c t):pz E ops pl (c0::c) (x::t)
theorem pz.made {ops:Array Oper} {pl:mj} {c:List Of} {t:List Step} (h:pz E ops pl c t):Mw c=qL t:=by
 induction h with
 | nil=>rfl
 | skip hs hm ht ih=>rw[wZ,hm];exact ih
 | Vn hk hl hm hs ht ih=>
   rename_i x c0 c t
   show ob (Mw c) (fun i=>i::Mw c) c0.made=_
   rw[wZ,hm,ih]
   cases c0.made<;>rfl
theorem pz.all {ops:Array Oper} {pl:mj} {hs:List ak} {c:List Of} {t:List Step} (h:pz E ops pl c t) (e:c.all (fun x=>yI x.f (s5 (s4 hs x.k) x.m))=true):
 t.all (fun x=>((hs.drop x.k).take (kC pl.bE pl.an x.i+1 - x.k)).all (jN E ops x))=true:=by
 induction h with
 | nil=>rfl
 | skip qQ hm ht ih=>
   rw[List.all_cons,ih e,Bool.and_true,List.all_eq_true]
   intro h _;exact qQ h
 | Vn hk hl hm qQ ht ih=>
   rw[List.all_cons,Bool.and_eq_true] at e
   rw[List.all_cons,ih e.2,Bool.and_true,List.all_eq_true]
   have e1:=e.1
   rw[ra,qt,qq,List.all_eq_true,hk,hl] at e1
   intro h hh;exact qQ h (e1 h hh)
theorem BL {ops:Array Oper} {pl:mj} {hs:List ak} {c:List Of} {t:List Step} (h:pz E ops pl c t) (e:re c hs=true):qM E ops pl t hs=true:=by
 unfold re at e
 rw[oL,Bool.and_eq_true,yL,ra,h.made] at e
 unfold qM
 rw[Bool.and_eq_true]
 exact ⟨e.1,h.all e.2⟩
def C1 (E:Env) (F:RF) (n:Nat) (ops:Array Oper) (pl:mj) (d:DO F.T) (t:j_):Prop:=match d with
 | .ok tr hs r h y=>∃JK,t= .ok JK hs ⟨eU F n r,h,y.ds,y.rc⟩∧pz E ops pl tr JK
 | .bad=>True
theorem C1.skip {ops:Array Oper} {pl:mj} {d:DO F.T} {t:j_} (h:C1 E F n ops pl d t) {x:Step} (hs:∀h,jN E ops x h=true) (hm:madeOf x.kind=none):C1 E F n ops pl d (t.step x):=by
 cases d with
 | bad=>trivial
 | ok tr qQ r h' y=>
   obtain ⟨JK,rfl,h2⟩:=h
   exact ⟨x::JK,rfl,.skip hs hm h2⟩
theorem C1.bound {ops:Array Oper} {pl:mj} {d:DO F.T} {t:j_} (h:C1 E F n ops pl d t) (h0:ak):C1 E F n ops pl (rb h0 d) (t.bound h0):=by
 cases d with
 | bad=>trivial
 | ok tr qQ r h' y=>
   obtain ⟨JK,rfl,h2⟩:=h
   exact ⟨JK,rfl,h2⟩
theorem C1.Vn {ops:Array Oper} {pl:mj} {d:DO F.T} {t:j_} (h:C1 E F n ops pl d t) {x:Step} {c:Of} (hk:c.k=x.k) (hl:c.m=kC pl.bE pl.an x.i+1 - x.k)
 (hm:madeOf x.kind=c.made) (hs:∀h,c.f h=true→jN E ops x h=true):C1 E F n ops pl (D5 c d) (t.step x):=by
 cases d with
 | bad=>trivial
 | ok tr qQ r h' y=>
   obtain ⟨JK,rfl,h2⟩:=h
   exact ⟨x::JK,rfl,.Vn hk hl hm hs h2⟩
theorem Ih:∀(m:Nat) (x y:AV),BD m x y=true→AV.same m x y=true
 | 0,_,_,e=>by cases e
 | m+1,x,y,e=>by
   have ih:=Ih m
   have all:∀(a b:List AV),leq (BD m) a b=true→gW (AV.same m) a b=true:=by
    intro a
    induction a with
    | nil=>intro b;cases b<;>intro e<;>first | rfl | cases e
    | cons x tl ihl=>
      intro b
      cases b with
      | nil=>intro e;cases e
      | cons y tm=>
        intro e
        have e:bc (BD m x y) (leq (BD m) tl tm) false=true:=e
        rw[oL,Bool.and_eq_true] at e
        rw[gW,Bool.and_eq_true]
        exact ⟨ih _ _ e.1,ihl _ e.2⟩
   cases x with
   | int k a=>cases y with
     | int j b=>
       have e:bc (Qy k j) (Xh a b) false=true:=e
       rw[oL,Bool.and_eq_true,Kv] at e
       rw[AV.same,MA e.1,e.2];simp
     | _=>cases e
   | str a=>cases y with
     | str b=>
       have e:leq Bv a b=true:=e
       rw[Kw] at e
       rw[AV.same];exact e
     | _=>cases e
   | ptr i o=>cases y with
     | ptr j p=>
       have e:bc (Nat.beq i j) (Nat.beq o p) false=true:=e
       rw[oL,Bool.and_eq_true] at e
       rw[AV.same,mq e.1,mq e.2];simp
     | _=>cases e
   | bool a=>cases y with
     | bool b=>
       have e:bc a b (vE b)=true:=e
       rw[AV.same]
       cases a<;>cases b<;>first | rfl | cases e
     | _=>cases e
   | agg a=>cases y with
     | agg b=>rw[AV.same];exact all a b e
     | _=>cases e
   | _=>exact e
theorem BN (hn:n≤F.N) {fc call:a_} (hle:kH fc call) (ops:Array Oper) (pl:mj):∀(l:List Nat) (k:Nat) (r:F.T) (h:ak) (y:Y),
 C1 E F n ops pl ((jA E F n ops pl l k).run fc r h y) (cU E call ops l k ⟨eU F n r,h,y.ds,y.rc⟩)
 | [],k,r,h,y=>⟨[],rfl,.nil⟩
 | i::rest,k,r,h,y=>by
   have ih:=BN hn hle ops pl rest
   rw[cU]
   show C1 E F n ops pl (D.run (ob ⟨fun _ _ _ _=> .bad⟩ (fun o=>wS F n o.dst fun s=>
    bc (qo E o.op) (canon (k+1) fun k'=>zG F n ops o (Mt (vb E F n o.op) s (jA E F n ops pl rest k')) (Ku s (jA E F n ops pl rest k')))
     (canon (AT pl.bE pl.an i+1 - k) fun m=>zG F n ops o (Mu k m (vb E F n o.op) s (jA E F n ops pl rest k)) (QO s (jA E F n ops pl rest k)))) (jd ops.toList i)) fc r h y) _
   rw[g5,Array.getElem?_toList]
   cases ho:ops[i]? with
   | none=>trivial
   | some o=>
     have gE:(ops.getD i default).op=o.op:=by rw[Array.getD_eq_getD_getElem?,ho];rfl
     simp only[U4,lJ,s9,Kp]
     obtain ⟨s,h1,hs⟩:=MF F n hn o.dst (fun s=>
      bc (fJ E o.op) (zG F n ops o (Mt (vb E F n o.op) s (jA E F n ops pl rest (k+1))) (Ku s (jA E F n ops pl rest (k+1))))
      (zG F n ops o (Mu k (kC pl.bE pl.an i+1 - k) (vb E F n o.op) s (jA E F n ops pl rest k)) (QO s (jA E F n ops pl rest k))))
     rw[h1]
     have hk:=Ie (E:=E) (F:=F) (n:=n) o.op
     generalize vb E F n o.op=kd at hk
     cases he:fJ E o.op with
     | true=>
       rw[jC,Ig hn,if_pos rfl]
       cases hw:cu ops (eU F n r) o with
       | false=>
         rw[if_neg (by simp)]
         show C1 E F n ops pl (rb h ((jA E F n ops pl rest (k+1)).run fc (s AV.undef r) h y)) _
         simp only[hs]
         exact ((ih _ _ _ _).bound h).skip (fun _=>rfl) rfl
       | true=>
         rw[if_pos rfl]
         show C1 E F n ops pl ((Mt kd s (jA E F n ops pl rest (k+1))).run fc r h y) _
         cases kd with
         | wr f=>
           show C1 E F n ops pl (ob .bad (fun p=>rb h ((jA E F n ops pl rest (k+1)).run fc (s p.1 r) p.2 y)) (f r h)) _
           cases hf:f r h with
           | none=>trivial
           | some p=>
             simp only[hk.2 call r h y.rc o p rfl hf,hs]
             exact ((ih _ _ _ _).bound h).skip (fun _=>rfl) rfl
         | call g args=>
           show C1 E F n ops pl (jn.rec (motive:=fun _=>DO F.T) (fun v h'=>rb h ((jA E F n ops pl rest (k+1)).run fc (s v r) h' y)) (fun _ _=> .bad) (fun _ _=> .bad) (fc g (args r) h)) _
           cases hc:fc g (args r) h with
           | fail _ _=>trivial
           | panic _ _=>trivial
           | ret v h'=>
             simp only[hk.2 call r h y.rc o rfl,(hle _ _ _).1 v h' hc,m5,hs]
             exact ((ih _ _ _ _).bound h).skip (fun _=>rfl) rfl
         | uz f=>
           show C1 E F n ops pl (ym.rec (motive:=fun _=>DO F.T) (fun v h'=>rb h ((jA E F n ops pl rest (k+1)).run fc (s v r) h' y)) (fun _=> .bad) (fun _=> .bad) (fun _ _=> .bad) (fun _ _=> .bad) (f fc r h y.rc)) _
           have h2:=hk.2 fc call hle r h y.rc o rfl
           cases hf:f fc r h y.rc with
           | val v h'=>
             rw[hf] at h2
             have h2:dr E call (eU F n r) h y.rc o= .val v h':=h2
             simp only[h2,hs]
             exact ((ih _ _ _ _).bound h).skip (fun _=>rfl) rfl
           | _=>trivial
         | _=>trivial
     | false=>
       rw[d_,Ig hn,if_neg (by simp)]
       cases hw:cu ops (eU F n r) o with
       | false=>
         rw[if_neg (by simp)]
         show C1 E F n ops pl ((jA E F n ops pl rest k).run fc (s AV.undef r) h y) _
         simp only[hs]
         exact (ih _ _ _ _).skip (fun _=>rfl) rfl
       | true=>
         rw[if_pos rfl]
         show C1 E F n ops pl ((Mu k (kC pl.bE pl.an i+1 - k) kd s (jA E F n ops pl rest k)).run fc r h y) _
         cases kd with
         | G8 g=>
           simp only[hk r,hs]
           exact (ih _ _ _ _).skip (fun _=>rfl) rfl
         | gV f=>
           show C1 E F n ops pl (ob .bad (fun v=>(jA E F n ops pl rest k).run fc (s v r) h y) (f r)) _
           cases hf:f r with
           | none=>trivial
           | some v=>
             simp only[hk r v hf,hs]
             exact (ih _ _ _ _).skip (fun _=>rfl) rfl
         | red f=>
           show C1 E F n ops pl (ob .bad (fun v=>D5 ⟨k,_,none,fun h'=>ob false (fun v'=>BD 20 v' v) (f r h')⟩ ((jA E F n ops pl rest k).run fc (s v r) h y)) (f r h)) _
           cases hf:f r h with
           | none=>trivial
           | some v=>
             rcases hk r h v hf with q0 | ⟨q0,q1⟩
             · simp only[q0,hs]
               exact (ih _ _ _ _).Vn rfl rfl rfl fun h' _=>rfl
             simp only[q0,q1,hs]
             refine (ih _ _ _ _).Vn rfl rfl rfl fun h' e=>?_
             have e:ob false (fun v'=>BD 20 v' v) (f r h')=true:=e
             cases YZ:f r h' with
             | none=>rw[YZ] at e;cases e
             | some v'=>
               rw[YZ] at e
               rcases hk r h' v' YZ with q2 | ⟨_,q3⟩
               · rw[q0] at q2;cases q2
               simp only[jN,gE,q3]
               exact Ih 20 v' v e
         | sH f=>
           obtain ⟨h3,h4,h5⟩:=hk
           show C1 E F n ops pl (ob .bad (fun p=>ob .bad (fun h'=>D5 ⟨k,_,some h.nx,fun Mv=>ob false (fun o=>aK.same o p.1) (Mv.get h.nx)⟩ ((jA E F n ops pl rest k).run fc (s (p.2 h.nx) r) h' y)) (h.new p.1)) (f r)) _
           cases hf:f r with
           | none=>trivial
           | some p=>
             obtain ⟨obj,mk⟩:=p
             show C1 E F n ops pl (ob .bad (fun h'=>D5 ⟨k,_,some h.nx,fun Mv=>ob false (fun o=>aK.same o obj) (Mv.get h.nx)⟩ ((jA E F n ops pl rest k).run fc (s (mk h.nx) r) h' y)) (h.new obj)) _
             cases hh:h.new obj with
             | none=>trivial
             | some h'=>
               simp only[h3,h4,h5 r _ hf,hh,hs]
               refine (ih _ _ _ _).Vn rfl rfl rfl fun Mv e=>?_
               have e:ob false (fun o=>aK.same o obj) (Mv.get h.nx)=true:=e
               cases YZ:Mv.get h.nx with
               | none=>rw[YZ] at e;cases e
               | some o'=>
                 rw[YZ] at e
                 simp only[jN,YZ]
                 exact e
         | _=>trivial
theorem Re {fc call:a_} (hle:kH fc call) {ts:List AV} {h h':ak} {rc:RC} {dst:Option Tmp} {c:Call} {ty:TypeId} {pos:String} {after:Array Edge} {guard:Option (Nat×Bool)} {v:AV} (e:dr E fc ts h rc ⟨dst,.call c,ty,pos,after,guard⟩= .panic v h'):
 dr E call ts h rc ⟨dst,.call c,ty,pos,after,guard⟩= .panic v h':=by
 obtain ⟨cA,args,aT⟩:=c
 cases cA with
 | builtin b=>
   cases b<;>simp only[dr] at e<;>(try (simp at e;done))<;>(split at e<;>(try (simp at e;done))<;>(try (split at e<;>simp at e)))
 | value f=>
   simp only[dr] at e ⊢
   split at e
   · split at e
     · split at e<;>simp at e
     · split at e
       · simp at e
       · rename_i hc
         simp at e;obtain ⟨rfl,rfl⟩:=e
         simp only[(hle _ _ _).2 _ _ hc]
       · simp at e
   · simp at e
 | invoke x name=>
   simp only[dr] at e ⊢
   split at e
   · split at e
     · split at e
       · simp at e
       · rename_i hc
         simp at e;obtain ⟨rfl,rfl⟩:=e
         simp only[(hle _ _ _).2 _ _ hc]
       · simp at e
     · simp at e
   · simp at e
theorem pz.snoc {ops:Array Oper} {pl:mj} {c:List Of} {t:List Step} (h:pz E ops pl c t) {x:Step} (hs:∀h,jN E ops x h=true) (hm:madeOf x.kind=none):pz E ops pl c (t++[x]):=by
 induction h with
 | nil=>exact .skip hs hm .nil
 | skip a b _ ih=>exact .skip a b ih
 | Vn a b d e _ ih=>exact .Vn a b d e ih
theorem Vo (hn:n≤F.N) {fc call:a_} (hle:kH fc call) (ops:Array Oper) (pl:mj) (r:F.T) (h:ak) (y:Y):
 sm E F n (U2 E F n ops pl fc r h y) (match cU E call ops pl.order 0 ⟨eU F n r,h,y.ds,y.rc⟩ with
  | .ok tr hs s'=>if qM E ops pl tr hs then .ok .normal s' else .fail "still" (ops[0]?)
  | .fail why o=>match A5 E call ops ⟨eU F n r,h,y.ds,y.rc⟩ pl with
    | some (v,s2)=> .ok (.panic v) s2
    | none=> .fail why o):=by
 unfold U2
 split
 · trivial
 rename_i i front UG
 split
 · rename_i tr hs r1 h1 y1 dst c ty pos after guard hd ho
   split
   · rename_i v h' EZ Qi
     split
     · rename_i hl
       have hk:=BN (E:=E) hn hle ops pl front.reverse 0 r h y
       rw[hd] at hk
       obtain ⟨JK,e1,e2⟩:=hk
       have Qe:pl.order=front.reverse++[i]:=by
        have:=congrArg List.reverse UG
        simpa using this
       have abp:=Re hle Qi
       have N1:=EZ
       simp only[Bool.and_eq_true] at N1
       obtain ⟨why,q,e3⟩:=yD ho N1.1.1 front.reverse 0 _ e1 N1.1.2 abp
       rw[Qe,e3]
       have Qj:A5 E call ops ⟨eU F n r,h,y.ds,y.rc⟩ pl=some (v,⟨eU F n r1,h',y1.ds,y1.rc⟩):=by
        unfold A5
        rw[UG]
        simp only[e1,ho,EZ,if_true,abp]
        rw[if_pos (BL (e2.snoc (fun _=>rfl) rfl) hl)]
       simp only[Qj]
       exact ⟨by simp,rfl⟩
     · trivial
   · trivial
 · trivial
theorem Rf (hn:n≤F.N) {fc call:a_} (hle:kH fc call) (ops:Array Oper) (r:F.T) (h:ak) (y:Y):
 sm E F n ((Mx E F n ops).run fc r h y) (wu E call ops ⟨eU F n r,h,y.ds,y.rc⟩):=by
 unfold Mx wu
 rw[QH]
 cases sG E ops with
 | none=>trivial
 | some pl=>
   show sm E F n (DO.rec (motive:=fun _=>FO F.T) (fun tr hs r' h' y'=>bc (re tr hs) (.HZ r' h' y') .bad) (U2 E F n ops pl fc r h y) ((jA E F n ops pl pl.order 0).run fc r h y)) _
   have:=BN (E:=E) hn hle ops pl pl.order 0 r h y
   cases hd:(jA E F n ops pl pl.order 0).run fc r h y with
   | bad=>exact Vo hn hle ops pl r h y
   | ok tr hs r' h' y'=>
     rw[hd] at this
     obtain ⟨JK,h1,h2⟩:=this
     show sm E F n (bc (re tr hs) (.HZ r' h' y') .bad) _
     cases hl:re tr hs with
     | false=>trivial
     | true=>
       simp only[h1]
       rw[if_pos (BL h2 hl)]
       rfl
end Go.Ab.Fa
end
section
namespace Go.Ab.Fa
variable {E:Env} {F:RF} {n:Nat}
theorem Ii {fc call:a_} (hle:kH fc call) {f:Operand} {ps:Array Tmp} {as_ bd:Code} {s:St} {e:kR} {s':St} (h:nC E fc f ps as_ bd s= .ok e s'):nC E call f ps as_ bd s= .ok e s':=by
 unfold nC at h ⊢
 split at h
 case h_2=>cases h
 rename_i g first captured hv
 split at h
 case h_2=>cases h
 rename_i dn h1 X' ho
 split at h
 case h_2=>cases h
 rename_i h2 hn
 cases hc:fc (.fn g) (first++[.sC h1.nx]++captured) h2 with
 | ret v h3=>rw[hc] at h;rw[(hle _ _ _).1 _ _ hc];exact h
 | panic v h3=>rw[hc] at h;rw[(hle _ _ _).2 _ _ hc];exact h
 | fail why q=>rw[hc] at h;cases h
theorem Oq {call:a_} {f:Operand} {ps:Array Tmp} {as_ bd:Code} {s:St} {e:kR} {s':St} (h:nC E call f ps as_ bd s= .ok e s'):s'.ts=s.ts:=by
 unfold nC at h
 split at h
 case h_2=>cases h
 split at h
 case h_2=>cases h
 split at h
 case h_2=>cases h
 split at h
 · split at h
   · cases h
   · split at h
     · simp only[Out.ok.injEq] at h;rw[←h.2]
     · cases h
   · cases h
 · simp only[Out.ok.injEq] at h;rw[←h.2]
 · cases h
theorem Rg {o:FO F.T} {out:Out} (h:sm E F n o out) {k:F.T→ak→Y→FO F.T} {g:St→Out} (hk:∀r h y,sm E F n (k r h y) (g ⟨eU F n r,h,y.ds,y.rc⟩)):
 sm E F n (fo k .jmp .bad o) (match (generalizing:=false) out with | .ok .normal s'=>g s' | r=>r):=by
 cases o with
 | HZ r h' y=>rw[show out=_ from h];exact hk r h' y
 | jmp e r h' y=>
   obtain ⟨h1,h2⟩:=h
   rw[h2]
   cases e with
   | normal=>exact absurd rfl h1
   | _=>exact ⟨by simp,rfl⟩
 | bad=>trivial
theorem lQ (hn:n≤F.N) {fc call:a_} (hle:kH fc call):∀(c:Code) (m:Nat) (r:F.T) (h:ak) (y:Y),
 sm E F n ((m6 E F n c).run m fc r h y) (exec E call m c ⟨eU F n r,h,y.ds,y.rc⟩)
 | .skip,m,r,h,y=>by cases m with
   | zero=>trivial
   | succ m=>exact rfl
 | .label _,m,r,h,y=>by cases m with
   | zero=>trivial
   | succ m=>exact rfl
 | .ret,m,r,h,y=>by cases m with
   | zero=>trivial
   | succ m=>exact ⟨by simp,rfl⟩
 | .exit id,m,r,h,y=>by cases m with
   | zero=>trivial
   | succ m=>exact ⟨by simp,rfl⟩
 | .region _ ops draw,m,r,h,y=>by
   cases m with
   | zero=>cases draw<;>trivial
   | succ m=>cases draw with
     | true=>exact Rf hn hle ops r h y
     | false=>exact BK hn hle ops ops.toList r h y
 | .seq a b,m,r,h,y=>by cases m with
   | zero=>trivial
   | succ m=>
     have h1:=lQ hn hle a m r h y
     have h2:=lQ hn hle b m
     exact Rg h1 (g:=fun s'=>exec E call m b s') h2
 | .cond x a b,m,r,h,y=>by
   have ha:=lQ hn hle a
   have hb:=lQ hn hle b
   show sm E F n (C.run (wO E F n x (fun g=>⟨fun m call r h y=>nS .bad (fun i=>jQ (fun t=>bc t ((m6 E F n a).run i call r h y) ((m6 E F n b).run i call r h y)) .bad (g r)) m⟩) ⟨fun _ _ _ _ _=> .bad⟩) m fc r h y) _
   rcases bP E F n x (fun g=>(⟨fun m call r h y=>nS .bad (fun i=>jQ (fun t=>bc t ((m6 E F n a).run i call r h y) ((m6 E F n b).run i call r h y)) .bad (g r)) m⟩:C F.T)) ⟨fun _ _ _ _ _=> .bad⟩ with hw | ⟨g,hw,hg⟩<;>rw[hw]
   · trivial
   cases m with
   | zero=>trivial
   | succ m=>
     show sm E F n (jQ (fun t=>bc t ((m6 E F n a).run m fc r h y) ((m6 E F n b).run m fc r h y)) .bad (g r)) _
     rw[exec]
     simp only[hg]
     cases g r with
     | bool t=>cases t with
       | true=>exact ha m r h y
       | false=>exact hb m r h y
     | _=>trivial
 | .block id b,m,r,h,y=>by cases m with
   | zero=>trivial
   | succ m=>
     have hb:=lQ hn hle b m r h y
     show sm E F n (fo .HZ (fun e r' h' y'=>QR (fun j=>bc (Nat.beq j id) (.HZ r' h' y') (.jmp e r' h' y')) (.jmp e r' h' y') e) .bad ((m6 E F n b).run m fc r h y)) _
     rw[exec]
     cases hr:(m6 E F n b).run m fc r h y with
     | bad=>trivial
     | HZ r' h' y'=>
       rw[hr] at hb
       have hb:exec E call m b _= .ok .normal ⟨eU F n r',h',y'.ds,y'.rc⟩:=hb
       rw[hb];exact rfl
     | jmp e r' h' y'=>
       rw[hr] at hb
       obtain ⟨h1,h2⟩:=hb
       rw[h2]
       cases e with
       | normal=>exact absurd rfl h1
       | exit j=>
         show sm E F n (bc (Nat.beq j id) (.HZ r' h' y') (.jmp (.exit j) r' h' y')) (if j=id then _ else _)
         cases hj:Nat.beq j id with
         | true=>rw[if_pos (mq hj)];exact rfl
         | false=>rw[if_neg (by intro e;rw[e,Nat.beq_refl] at hj;cases hj)];exact ⟨by simp,rfl⟩
       | ret=>exact ⟨by simp,rfl⟩
       | panic v=>exact ⟨by simp,rfl⟩
 | .loop b,m,r,h,y=>by
   have hb:=lQ hn hle b
   show sm E F n (QS (m6 E F n b) m fc r h y) _
   induction m generalizing r h y with
   | zero=>trivial
   | succ m ih=>
     show sm E F n (fo (fun r' h' y'=>QS (m6 E F n b) m fc r' h' y') .jmp .bad ((m6 E F n b).run m fc r h y)) _
     exact Rg (hb m r h y) (g:=fun s'=>exec E call m (.loop b) s') ih
 | .rangeFunc f ps as_ bd,m,r,h,y=>by
   show sm E F n ((U3 (FE E F n f ps as_ bd)).run m fc r h y) _
   cases m with
   | zero=>trivial
   | succ m=>
     show sm E F n ((FE E F n f ps as_ bd).run fc r h y) (nC E call f ps as_ bd ⟨eU F n r,h,y.ds,y.rc⟩)
     unfold FE
     rcases bP E F n f (fun _=>(⟨fun call r h y=>Xn r (nC E call f ps as_ bd ⟨eU F n r,h,y.ds,y.rc⟩)⟩:I F.T)) ⟨fun _ _ _ _=> .bad⟩ with hw | ⟨g,hw,_⟩<;>rw[hw]
     · trivial
     simp only
     cases hr:nC E fc f ps as_ bd ⟨eU F n r,h,y.ds,y.rc⟩ with
     | fail _ _=>trivial
     | ok e s=>
       rw[Ii hle hr]
       have ht:=Oq hr
       obtain ⟨ts,hh,ds,rc⟩:=s
       simp only at ht
       subst ht
       cases e with
       | normal=>exact rfl
       | _=>exact ⟨by simp,rfl⟩
 | .scope b,m,r,h,y=>by cases m with
   | zero=>trivial
   | succ m=>exact lQ hn hle b m r h y
 | .goto _,m,r,h,y=>trivial
 | .refuse _,m,r,h,y=>trivial
theorem w6:∀(l:List ResultVar) (r:F.T) (h:ak) (vs:List AV),(yN E F n l).f r h=some vs→kS E h (eU F n r) l=some vs
 | [],r,h,vs,e=>e
 | .tmp t::rest,r,h,vs,e=>by
   rw[yN] at e
   obtain ⟨g,h1,h2⟩:=FI F n t (fun g=>wW (yN E F n rest) fun k=>(⟨fun r h=>ob none (fun vs=>some (g r::vs)) (k r h)⟩:W (F.T→ak→Option (List AV))))
   rw[h1] at e
   obtain ⟨qR,h3,h4⟩:=gR (show ob none (fun vs=>some (g r::vs)) ((yN E F n rest).f r h)=some vs from e)
   rw[kS]
   simp only[h2,w6 rest r h qR h3]
   exact h4
 | .cell a t::rest,r,h,vs,e=>by
   rw[yN] at e
   obtain ⟨g,h1,h2⟩:=FI F n a (fun g=>wW (yN E F n rest) fun k=>(⟨fun r h=>ob none (fun v=>ob none (fun vs=>some (v::vs)) (k r h)) (bm E h t (g r))⟩:W (F.T→ak→Option (List AV))))
   rw[h1] at e
   obtain ⟨v,h3,h4⟩:=gR (show ob none (fun v=>ob none (fun vs=>some (v::vs)) ((yN E F n rest).f r h)) (bm E h t (g r))=some vs from e)
   obtain ⟨qR,h5,h6⟩:=gR h4
   rw[kS]
   simp only[h2,h3,w6 rest r h qR h5]
   exact h6
def BOk (E:Env) (rs:List ResultVar) (b:BO) (out:Out):Prop:=match b with
 | .fin res h y=>∃e ts,(e= .normal∨e= .ret)∧out= .ok e ⟨ts,h,y.ds,y.rc⟩∧∀h' vs,res h'=some vs→kS E h' ts rs=some vs
 | .pan v res h y=>∃ts,out= .ok (.panic v) ⟨ts,h,y.ds,y.rc⟩∧∀h' vs,res h'=some vs→kS E h' ts rs=some vs
 | .bad=>True
theorem Ij {fc call:a_} (hle:kH fc call) (F:RF) (fn:Func) (hn:fn.ntmps≤F.N) (b:Code) (fuel:Nat) (args:List AV) (h:ak) (rc:RC):
 BOk E fn.results.toList ((QT E F fn.ntmps fn b).run fuel fc args h rc) (nQ E call fuel fn b args h rc):=by
 show BOk E _ (bc (Nat.ble (jc args) fn.ntmps)
  (fo (fun r h' y=> .fin ((yN E F fn.ntmps fn.results.toList).f r) h' y) (fun e r h' y=>kR.rec (motive:=fun _=>BO) .bad (fun _=> .bad) (.fin ((yN E F fn.ntmps fn.results.toList).f r) h' y) (fun v=> .pan v ((yN E F fn.ntmps fn.results.toList).f r) h' y) e) .bad
   ((m6 E F fn.ntmps b).run fuel fc (PG F args F.z 0) h ⟨[],rc⟩)) .bad) _
 cases hl:Nat.ble (jc args) fn.ntmps with
 | false=>trivial
 | true=>
   have hl:=fN hl
   rw[fY] at hl
   have:=lQ (E:=E) hn hle b fuel (PG F args F.z 0) h ⟨[],rc⟩
   rw[Ml F fn.ntmps hn args hl] at this
   rw[jC]
   unfold nQ
   cases hr:(m6 E F fn.ntmps b).run fuel fc (PG F args F.z 0) h ⟨[],rc⟩ with
   | bad=>trivial
   | HZ r h' y=>
     rw[hr] at this
     exact ⟨.normal,_,.inl rfl,this,fun Mv vs e=>w6 _ r Mv vs e⟩
   | jmp e r h' y=>
     rw[hr] at this
     obtain ⟨h1,h2⟩:=this
     cases e with
     | normal=>exact absurd rfl h1
     | exit _=>trivial
     | ret=>exact ⟨.ret,_,.inr rfl,h2,fun Mv vs e=>w6 _ r Mv vs e⟩
     | panic v=>exact ⟨_,h2,fun Mv vs e=>w6 _ r Mv vs e⟩
theorem Ik {fc call:a_} (hle:kH fc call) (f:FuncId) (fuel:Nat) (args:List AV) (h:ak) (rc:RC):
 (zH E f).run fuel fc args h rc= .bad∨∃fn b,E.P.funcs[f]? =some fn∧fn.body=some b∧BOk E fn.results.toList ((zH E f).run fuel fc args h rc) (nQ E call fuel fn b args h rc):=by
 unfold zH
 rw[UU]
 cases hf:E.P.funcs[f]? with
 | none=>exact .inl rfl
 | some fn=>
   simp only
   cases hb:fn.body with
   | none=>exact .inl rfl
   | some b=>
     refine .inr ⟨fn,b,rfl,hb,?_⟩
     simp only
     cases h1:Nat.ble fn.ntmps 64 with
     | true=>exact Ij hle rf2 fn (fN h1) b fuel args h rc
     | false=>cases h2:Nat.ble fn.ntmps 512 with
       | true=>exact Ij hle rf3 fn (fN h2) b fuel args h rc
       | false=>trivial
theorem tb {fc call:a_} (hle:kH fc call) {fuel:Nat} {c:Code} {s:St} {e:kR} {s':St} (h:Mz E fc fuel c s= .ok e s'):exec E call fuel c s= .ok e s':=by
 have key:∀F:RF,s.ts.length≤F.N→My E F fc fuel c s= .ok e s'→exec E call fuel c s= .ok e s':=by
  intro F hn hx
  have:=lQ (E:=E) hn hle c fuel (PG F s.ts F.z 0) s.h ⟨s.ds,s.rc⟩
  rw[Ml F s.ts.length hn s.ts (Nat.le_refl _),Nat.sub_self,List.replicate_zero,List.append_nil] at this
  unfold My at hx
  cases hr:(m6 E F s.ts.length c).run fuel fc (PG F s.ts F.z 0) s.h ⟨s.ds,s.rc⟩ with
  | bad=>rw[hr] at hx;cases hx
  | HZ r h' y=>rw[hr] at hx this;rw[show exec E call fuel c s=_ from this];exact hx
  | jmp e' r h' y=>rw[hr] at hx this;rw[show exec E call fuel c s=_ from this.2];exact hx
 unfold Mz at h
 cases h1:Nat.ble s.ts.length 64 with
 | true=>rw[h1] at h;exact key rf2 (fN h1) h
 | false=>cases h2:Nat.ble s.ts.length 512 with
   | true=>rw[h1,h2] at h;exact key rf3 (fN h2) h
   | false=>rw[h1,h2] at h;cases h
noncomputable def FQ (E:Env) (call:a_) (fuel:Nat) (g:FuncId) (as_:List AV) (h:ak) (rc:RC):Option (ak×RC):=match E.P.funcs[g]? with
 | none=>none
 | some fg=>match fg.body with
   | none=>none
   | some bg=>match nQ E call fuel fg bg as_ h rc with
     | .ok .normal s'=>if s'.ds.isEmpty&&(kS E s'.h s'.ts fg.results.toList).isSome then some (s'.h,s'.rc) else none
     | .ok .ret s'=>if s'.ds.isEmpty&&(kS E s'.h s'.ts fg.results.toList).isSome then some (s'.h,s'.rc) else none
     | _=>none
theorem Ri {fc call:a_} (hle:kH fc call) {fuel:Nat} {g:FuncId} {as_:List AV} {h:ak} {rc:RC} {p:ak×RC} (e:iy E fc fuel g as_ h rc=some p):FQ E call fuel g as_ h rc=some p:=by
 unfold iy at e
 rcases Ik (E:=E) hle g fuel as_ h rc with h1 | ⟨fn,b,h1,h2,h3⟩
 · rw[h1] at e;cases e
 · unfold FQ
   rw[h1];simp only;rw[h2];simp only
   cases hr:(zH E g).run fuel fc as_ h rc with
   | bad=>rw[hr] at e;cases e
   | pan v res h' y=>rw[hr] at e;cases e
   | fin res h' y=>
     rw[hr] at e h3
     obtain ⟨x,ts,h4,h5,h6⟩:=h3
     obtain ⟨h7,e1⟩:=fM (show bc y.ds.isEmpty (ob none (fun _=>some (h',y.rc)) (res h')) none=some p from e)
     obtain ⟨vs,h8,e2⟩:=gR e1
     rw[h5]
     rcases h4 with rfl | rfl
     · simp only[h7,h6 h' vs h8,Option.isSome_some,Bool.and_self,if_true];exact e2
     · simp only[h7,h6 h' vs h8,Option.isSome_some,Bool.and_self,if_true];exact e2
theorem lR {f g:FuncId→List AV→ak→RC→Option (ak×RC)} (hfg:∀k as_ h rc p,f k as_ h rc=some p→g k as_ h rc=some p):∀(ds:List qK) (p:Option AV) (h:ak) {q:Option AV×ak},cZ f ds p h=some q→cZ g ds p h=some q
 | [],p,h,q,e=>by cases p<;>exact e
 | .col r::ds,p,h,q,e=>by
   rw[cZ] at e ⊢
   split at e
   · exact lR hfg ds p _ e
   · cases e
 | .call k as_::ds,none,h,q,e=>by
   rw[cZ] at e ⊢
   cases hf:f k as_ h .no with
   | none=>rw[hf] at e;cases e
   | some p=>rw[hf] at e;rw[hfg _ _ _ _ _ hf];obtain ⟨h',UJ⟩:=p;exact lR hfg ds none h' e
 | .call k as_::ds,some v,h,q,e=>by
   rw[cZ] at e ⊢
   cases hf:f k as_ h (.ja v) with
   | none=>rw[hf] at e;cases e
   | some p=>
     rw[hf] at e;rw[hfg _ _ _ _ _ hf];obtain ⟨h',UJ⟩:=p
     cases UJ with
     | ja w=>exact lR hfg ds _ h' e
     | done=>exact lR hfg ds _ h' e
     | _=>cases e
theorem Ot {fc call:a_} (hle:kH fc call) (fuel:Nat) (l:Nat) (args:List AV) (h:ak):(∀v h',BE E fc fuel l args h= .ret v h'→sI E call fuel l args h= .ret v h')∧∀v h',BE E fc fuel l args h= .panic v h'→sI E call fuel l args h= .panic v h':=by
 have key:∀out:jn,(∀why o,out≠ .fail why o)→BE E fc fuel l args h=out→sI E call fuel l args h=out:=by
  intro out qi e
  unfold BE at e
  unfold sI
  split at e
  case h_2=>exact absurd e.symm (qi _ _)
  rename_i st pd ts ps as_ bd dn hg
  rw[hg]
  simp only
  by_cases ha:args.length=ps.length
  · rw[if_pos ha] at e ⊢
    split at e
    · rename_i s1 h1
      rw[tb hle h1]
      simp only
      split at e
      · rename_i pd Ya WY Ul Yb Yc hg2
        rw[hg2]
        simp only
        split at e
        · rename_i s2 h2;rw[tb hle h2];exact e
        · rename_i s2 h2;rw[tb hle h2];exact e
        · rename_i id s2 h2;rw[tb hle h2];exact e
        · rename_i v s2 h2;rw[tb hle h2];exact e
        · exact absurd e.symm (qi _ _)
      · exact absurd e.symm (qi _ _)
    · exact absurd e.symm (qi _ _)
    · exact absurd e.symm (qi _ _)
  · rw[if_neg ha] at e;exact absurd e.symm (qi _ _)
 exact ⟨fun v h' e=>key _ (by simp) e,fun v h' e=>key _ (by simp) e⟩
noncomputable def Rj (E:Env) (call:a_) (fuel:Nat) (fn:Func) (p:Option AV) (s:St):jn:=match cZ (FQ E call fuel) s.ds p s.h with
 | none=> .fail "unwind" none
 | some (some v,h')=> .panic v h'
 | some (none,h')=>match kS E h' s.ts fn.results.toList with
   | some vs=> .ret (h_ vs) h'
   | none=> .fail "results" none
theorem KA (d fuel:Nat) {f:FuncId} {fn:Func} {b:Code} (hf:E.P.funcs[f]? =some fn) (hb:fn.body=some b) (args:List AV) (h:ak):
 gN E (d+1) fuel (.fn f) args h=(match nQ E (gN E d fuel) fuel fn b args h .no with
  | .ok .normal s=>Rj E (gN E d fuel) fuel fn none s
  | .ok .ret s=>Rj E (gN E d fuel) fuel fn none s
  | .ok (.panic v) s=>Rj E (gN E d fuel) fuel fn (some v) s
  | .ok (.exit _) _=> .fail "exit" none
  | .fail why o=> .fail (why++ " in " ++fn.name) o):=by
 rw[gN]
 simp only[hf,hb]
 rfl
theorem MI {fc call:a_} (hle:kH fc call) {fuel:Nat} {fn:Func} {p:Option AV} {res:ak→Option (List AV)} {ts:List AV} {h:ak} {y:Y} (De:∀h' vs,res h'=some vs→kS E h' ts fn.results.toList=some vs) {out:jn} (ho:∀why o,out≠ .fail why o)
 (e:H6 (p.elim (ob (.fail "results" none) (fun vs=>jn.ret (h_ vs) h) (res h)) (fun v=> .panic v h)) (H5 E fc fuel p res h y.ds) y.ds=out):Rj E call fuel fn p ⟨ts,h,y.ds,y.rc⟩=out:=by
 unfold Rj
 cases hd:y.ds with
 | nil=>
   rw[hd] at e
   cases p with
   | some v=>exact e
   | none=>
     have e:ob (.fail "results" none) (fun vs=>jn.ret (h_ vs) h) (res h)=out:=e
     cases hr:res h with
     | none=>rw[hr] at e;exact absurd e.symm (ho _ _)
     | some vs=>
       rw[hr] at e
       simp only[cZ,De h vs hr]
       exact e
 | cons d ds=>
   rw[hd] at e
   have e:H5 E fc fuel p res h (d::ds)=out:=e
   unfold H5 at e
   cases hu:cZ (iy E fc fuel) (d::ds) p h with
   | none=>rw[hu] at e;exact absurd e.symm (ho _ _)
   | some q=>
     rw[hu] at e
     have:=lR (g:=FQ E call fuel) (fun k as_ h rc p e=>Ri hle e) (d::ds) p h hu
     simp only[this]
     obtain ⟨q1,h'⟩:=q
     cases q1 with
     | some v=>exact e
     | none=>
       have e:ob (.fail "results" none) (fun vs=>jn.ret (h_ vs) h') (res h')=out:=e
       cases hr:res h' with
       | none=>rw[hr] at e;exact absurd e.symm (ho _ _)
       | some vs=>rw[hr] at e;simp only[De h' vs hr];exact e
theorem Il (fuel:Nat):∀d,kH (zI E d fuel) (gN E d fuel)
 | 0=>fun _ _ _=>⟨fun _ _ e=>(by cases e),fun _ _ e=>(by cases e)⟩
 | d+1=>by
   have ih:=Il fuel d
   intro g args h
   cases g with
   | yl l=>exact Ot ih fuel l args h
   | fn f=>
     have key:∀out:jn,(∀why o,out≠ .fail why o)→zI E (d+1) fuel (.fn f) args h=out→gN E (d+1) fuel (.fn f) args h=out:=by
      intro out ho e
      have e:bo (fun res h' y=>H6 (ob (.fail "results" none) (fun vs=>jn.ret (h_ vs) h') (res h')) (H5 E (zI E d fuel) fuel none res h' y.ds) y.ds)
       (fun v res h' y=>H6 (.panic v h') (H5 E (zI E d fuel) fuel (some v) res h' y.ds) y.ds) (.fail "body" none) ((zH E f).run fuel (zI E d fuel) args h .no)=out:=e
      rcases Ik (E:=E) ih f fuel args h .no with h1 | ⟨fn,b,h1,h2,h3⟩
      · rw[h1] at e;exact absurd e.symm (ho _ _)
      · rw[KA d fuel h1 h2]
        cases hr:(zH E f).run fuel (zI E d fuel) args h .no with
        | bad=>rw[hr] at e;exact absurd e.symm (ho _ _)
        | fin res h' y=>
          rw[hr] at e h3
          obtain ⟨x,ts,h4,h5,h6⟩:=h3
          have:=MI (E:=E) ih (fn:=fn) (p:=none) h6 ho e
          rw[h5]
          rcases h4 with rfl | rfl<;>exact this
        | pan v res h' y=>
          rw[hr] at e h3
          obtain ⟨ts,h5,h6⟩:=h3
          have:=MI (E:=E) ih (fn:=fn) (p:=some v) h6 ho e
          rw[h5];exact this
     exact ⟨fun v h' e=>key _ (by simp) e,fun v h' e=>key _ (by simp) e⟩
theorem BP {d fuel:Nat} {f:FuncId} {args:List AV} {h h':ak} {v:AV} (e:zI E d fuel (.fn f) args h= .ret v h'):gN E d fuel (.fn f) args h= .ret v h':=
 (Il fuel d _ _ _).1 v h' e
end Go.Ab.Fa
end
section
namespace Go.Ab
structure aff (P:Program) (f:FuncId) (e:Array Value→Sem Value):Prop where
 at':∃fn,P.funcs[f]? =some fn∧(fn.name== "runtime.NumGoroutine")=false∧fn.body.isNone=true∧Extern.findNext fn=none∧Extern.find fn=some e
section
open Fa
noncomputable def l3 {R:Type} (f:AV→AV→AV→R) (d:R) (l:List AV):R:=
 List.rec (motive:=fun _=>R) d (fun a tl _=>List.rec (motive:=fun _=>R) d (fun b tl _=>List.rec (motive:=fun _=>R) d (fun c tl _=>List.rec (motive:=fun _=>R) (f a b c) (fun _ _ _=>d) tl) tl) tl) l
noncomputable def l2 {R:Type} (f:AV→AV→R) (d:R) (l:List AV):R:=
 List.rec (motive:=fun _=>R) d (fun a tl _=>List.rec (motive:=fun _=>R) d (fun b tl _=>List.rec (motive:=fun _=>R) (f a b) (fun _ _ _=>d) tl) tl) l
noncomputable def n3 (f:Nat→Nat→Nat→Option AV):List AV→Option AV:=
 l3 (fun a b c=>oJ (fun _ x=>oJ (fun _ y=>oJ (fun _ z=>lu (fun x=>lu (fun y=>lu (fun z=>f x y z) none z) none y) none x) none c) none b) none a) none
end
open Fa
end Go.Ab
end
section
namespace Go.Ab
open Go.Maps Go.WideElems Go.RowKit Go.Proofs
section
open Fa
noncomputable def l1 {R:Type} (f:AV→R) (d:R) (l:List AV):R:=List.rec (motive:=fun _=>R) d (fun a tl _=>List.rec (motive:=fun _=>R) (f a) (fun _ _ _=>d) tl) l
end
open Fa
theorem OK.later {E:Env} {φ:Ph} {h:ak} {w w':World} (ok:OK E φ h w) (b:Below w.heap.size w w'):OK E φ h w'∧Fr φ h w φ h w':=by
 have C6:∀j p m,h.get j=some p→φ j=some m→m.fI<w.heap.size:=fun j p m hj hm=>by
  have AS:=ok.live j p m hj hm
  rcases Nat.lt_or_ge m.fI w.heap.size with a | a
  · exact a
  · exfalso
    rw[Array.getElem?_eq_none a] at AS
    exact AS.absurd
 refine ⟨⟨ok.An,ok.nx,ok.vo,fun i o l h1 h2=>?_,ok.inj⟩,⟨Ph.le_refl φ,fun _ _=>rfl,Nat.le_refl _,b.os,b.tape,b.output,b.size,fun c hc _=>b.block c hc,fun i o l h1 h2 h3=> .inr ⟨i,o,l,h1,h2,h3,rfl⟩⟩⟩
 rw[b.block _ (C6 i o l h1 h2)]
 exact ok.live i o l h1 h2
end Go.Ab
end
section
namespace Go.Ab
structure Vp where
 g:Nat
 k:IntKind
 ns:List Nat
 t:TypeId
def Vp.cells (x:Vp):List AV:=x.ns.map fun n=>AV.int x.k (Int.ofNat n)
noncomputable def lS (G:Nat):List Vp→ak
 | []=>⟨HT.nil,G,fun _=>none⟩
 | x::xs=>(lS G xs).put x.g (some (.cells x.cells x.t true))
theorem Vq (i:Nat) (G:Nat):(ak.mk HT.nil G fun _=>none).get i=none:=by
 by_cases hi:i<262144
 · rw[ak.vp hi]
   rw[A_ hi,yp,A9]
   simp only[HT.nil,AO]
 · rw[ak.qN hi]
theorem yR (G:Nat):∀l,(lS G l).nx=G
 | []=>rfl
 | _::xs=>yR G xs
theorem ri {G:Nat}:∀{l:List Vp} {i:Nat} {o:aK},(lS G l).get i=some o→∃x∈l,x.g=i∧o= .cells x.cells x.t true
 | [],i,o,e=>by rw[lS,Vq] at e;cases e
 | x::xs,i,o,e=>by
   rw[lS] at e
   by_cases h:x.g=i
   · subst h
     rw[ak.di] at e
     exact ⟨x,by simp,rfl,(Option.some.inj e).symm⟩
   · rw[ak.bR h] at e
     obtain ⟨y,hy,h1,h2⟩:=ri e
     exact ⟨y,by simp [hy],h1,h2⟩
def abr (w:World) (x:Vp):Prop:=∃C e fz,w.heap[x.g]? =some (.cells C e fz)∧C.toList=x.ns.map fun n=>Value.int x.k (Int.ofNat n)
def Xq (G:Nat):Ph:=fun i=>if i<G then some ⟨i,0,0⟩ else none
theorem OK.begin {E:Env} {w:World} {l:List Vp} (hl:∀x∈l,x.g<E.G∧abr w x):OK E (Xq E.G) (lS E.G l) w:=by
 refine ⟨fun i l' h=>?_,?_,fun g hg=>?_,fun i o l' h1 h2=>?_,fun i j o p l' m _ _ h3 h4 _ h5=>?_⟩
 · unfold Xq at h;rw[yR];split at h
   · assumption
   · cases h
 · rw[yR];exact Nat.le_refl _
 · unfold Xq;rw[if_pos hg]
 · obtain ⟨x,hx,rfl,rfl⟩:=ri h1
   obtain ⟨hg,C,e,⟨lo,hi⟩,hw,hC⟩:=hl x hx
   unfold Xq at h2;rw[if_pos hg] at h2
   obtain rfl:=Option.some.inj h2
   refine ⟨C,e,lo,hi,hw,⟨?_,?_,(fun h=>by cases h),fun _ _ _=>rfl⟩,fun z=>by cases z⟩
   · have:C.size=x.ns.length:=by rw[←Array.length_toList,hC,List.length_map]
     simp [Vp.cells,fL,this]
   · intro k y hk
     simp only[Vp.cells,List.getElem?_map,Option.map_eq_some_iff] at hk
     obtain ⟨n,hn,rfl⟩:=hk
     refine ⟨.int x.k (Int.ofNat n),?_,.int _ _⟩
     rw[Nat.zero_add,←Array.getElem?_toList,hC,List.getElem?_map,hn];rfl
 · unfold Xq at h3 h4
   split at h3
   · split at h4
     · obtain rfl:=Option.some.inj h3
       obtain rfl:=Option.some.inj h4
       exact h5
     · cases h4
   · cases h3
noncomputable def w7 (o:jn):Bool:=jn.rec (motive:=fun _=>Bool) (fun v _=>Fa.jQ (fun b=>b) false v) (fun _ _=>false) (fun _ _=>false) o
theorem zL {o:jn} (h:w7 o=true):∃h',o= .ret (.bool true) h':=by
 cases o with
 | ret v h'=>
   cases v with
   | bool b=>exact ⟨h',by rw[show b=true from h]⟩
   | _=>cases h
 | panic v h'=>cases h
 | fail _ _=>cases h
end Go.Ab
end
section
namespace Go.Ab
variable {E:Env}
noncomputable def uh (E:Env) (call:a_) (fuel:Nat) (fn:Func) (p:Option AV) (s:St):jn:=match cZ (iy E call fuel) s.ds p s.h with
 | none=> .fail "unwind" none
 | some (some v,h')=> .panic v h'
 | some (none,h')=>match kS E h' s.ts fn.results.toList with
   | some vs=> .ret (h_ vs) h'
   | none=> .fail "results" none
noncomputable def zM (E:Env) (call:a_) (fuel:Nat) (f:FuncId) (args:List AV) (h:ak):jn:=match E.P.funcs[f]? with
 | none=> .fail "no function" none
 | some fn=>match fn.body with
   | none=> .fail ("no body " ++fn.name) none
   | some b=>match nQ E call fuel fn b args h .no with
     | .ok .normal s=>uh E call fuel fn none s
     | .ok .ret s=>uh E call fuel fn none s
     | .ok (.panic v) s=>uh E call fuel fn (some v) s
     | .ok (.exit _) _=> .fail "exit" none
     | .fail why o=> .fail (why++ " in " ++fn.name) o
theorem pA (hE:kU E) (fuel:Nat) {call:a_} (ih:iB E call):(∀f args h v h',zM E call fuel f args h= .ret v h'→lN E f args h v h')∧(∀f args h v h',zM E call fuel f args h= .panic v h'→Md E f args h v h'):=by
 have key:∀(f:FuncId) (args:List AV) (h:ak) (out:jn),zM E call fuel f args h=out→(∀why q,out≠ .fail why q)→
  ∃fn c e s p,E.P.funcs[f]? =some fn∧fn.body=some c∧nQ E call fuel fn c args h .no= .ok e s∧
   ((p=none∧(e= .normal∨e= .ret))∨∃v,p=some v∧e= .panic v)∧
   ((∃v h',out= .panic v h'∧cZ (iy E call fuel) s.ds p s.h=some (some v,h'))∨
    ∃vs h',out= .ret (h_ vs) h'∧cZ (iy E call fuel) s.ds p s.h=some (none,h')∧kS E h' s.ts fn.results.toList=some vs):=by
  intro f args h out e ep
  unfold zM at e
  split at e
  · exact absurd e.symm (ep _ _)
  rename_i fn hf
  split at e
  · exact absurd e.symm (ep _ _)
  rename_i c hb
  have fin:∀(p:Option AV) (s:St),uh E call fuel fn p s=out→
   ((∃v h',out= .panic v h'∧cZ (iy E call fuel) s.ds p s.h=some (some v,h'))∨
    ∃vs h',out= .ret (h_ vs) h'∧cZ (iy E call fuel) s.ds p s.h=some (none,h')∧kS E h' s.ts fn.results.toList=some vs):=by
   intro p s hm
   unfold uh at hm
   split at hm
   · exact absurd hm.symm (ep _ _)
   · rename_i v h' hu;exact .inl ⟨v,h',hm.symm,hu⟩
   · rename_i h' hu
     split at hm
     · rename_i vs hv;exact .inr ⟨vs,h',hm.symm,hu,hv⟩
     · exact absurd hm.symm (ep _ _)
  split at e
  · rename_i s gF;exact ⟨fn,c,_,s,none,hf,hb,gF,.inl ⟨rfl,.inl rfl⟩,fin none s e⟩
  · rename_i s gF;exact ⟨fn,c,_,s,none,hf,hb,gF,.inl ⟨rfl,.inr rfl⟩,fin none s e⟩
  · rename_i v s gF;exact ⟨fn,c,_,s,some v,hf,hb,gF,.inr ⟨v,rfl,rfl⟩,fin (some v) s e⟩
  · exact absurd e.symm (ep _ _)
  · exact absurd e.symm (ep _ _)
 have run:∀(f:FuncId) (fn:Func) (c:Code) (args:List AV) (h:ak) (e:kR) (s:St) (p p':Option AV) (h':ak),E.P.funcs[f]? =some fn→fn.body=some c→nQ E call fuel fn c args h .no= .ok e s→
  ((p=none∧(e= .normal∨e= .ret))∨∃v,p=some v∧e= .panic v)→cZ (iy E call fuel) s.ds p s.h=some (p',h')→
  ∀(φ:Ph) (w:World) (vs:List Value),OK E φ h w→LR φ args vs→∀cs,∃φ' w' m' tmps todo,OK E φ' h' w'∧Fr φ h w φ' h' w'∧LR φ' s.ts tmps.toList∧
   ((p'=none∧m'= .returning)∨∃v v',p'=some v∧VR φ' v v'∧m'= .panicking [{v:=v',recovered:=false}])∧
   Steps E.P (lone (Frame.enter E.P f vs.toArray .normal) cs w) (lone {(bare f .normal).atR {tmps,defers:=[]} todo with mode:=m'} cs w'):=by
  intro f fn c args h e s p p' h' hf hb gF hp hu φ w vs ok hl cs
  obtain ⟨φ1,w1,a1,e1,x1,x2,x3,x4,x5,x6⟩:=(sX hE ih hf hb gF ok hl (kind:= .normal) (K:=fun _=>cs) ⟨rfl,fun fr hk=>by simp [tryRecover,show fr.kind= .normal from hk]⟩).is
  have HL:cur (fun _=>cs) s.rc=cs:=by cases s.rc<;>rfl
  have Qv:cur (fun _=>cs) RC.no=cs:=rfl
  rw[HL] at x6
  rw[Qv] at x6
  have hm:∃todo m,((p=none∧m= .returning)∨∃v v',p=some v∧VR φ1 v v'∧m= .panicking [{v:=v',recovered:=false}])∧
   Steps E.P (lone (Frame.enter E.P f vs.toArray .normal) cs w) (lone {(bare f .normal).atR a1 todo with mode:=m} cs w1):=by
   rcases hp with ⟨rfl,rfl | rfl⟩ | ⟨v,rfl,rfl⟩
   · cases x1;exact ⟨[],.returning,.inl ⟨rfl,rfl⟩,Steps.trans x6 (.one (stepR_end rfl))⟩
   · cases x1;obtain ⟨todo,hs⟩:=x6;exact ⟨_,.returning,.inl ⟨rfl,rfl⟩,Steps.trans hs (.one (stepR_ret rfl))⟩
   · cases x1 with
     | panic _ v' hv=>obtain ⟨todo,hs⟩:=x6;exact ⟨todo,_,.inr ⟨v,v',rfl,hv,rfl⟩,hs⟩
  obtain ⟨todo,m,hmp,sA⟩:=hm
  obtain ⟨φ2,w2,m2,Br,f2,Qu,hs2⟩:=ke hE ih s.ds hu (fr:={(bare f .normal).atR a1 todo with mode:=m}) (cs:=cs) x3 x2.ds (by
   rcases hmp with ⟨e,em⟩ | ⟨v,v',e,hv,em⟩
   · exact .inl ⟨e,em⟩
   · exact .inr ⟨v,v',e,hv,em⟩)
  exact ⟨φ2,w2,m2,a1.tmps,todo,Br,x4.trans f2,x2.ts.mono f2.ext,Qu,Steps.trans sA hs2⟩
 refine ⟨fun f args h v h' e=>?_,fun f args h v h' e=>?_⟩
 · obtain ⟨fn,c,e1,s,p,hf,hb,gF,hp,qi⟩:=key f args h _ e (by simp)
   rcases qi with ⟨v1,h1,he,_⟩ | ⟨vs1,h1,he,hu,De⟩
   · simp at he
   · simp at he;obtain ⟨rfl,rfl⟩:=he
     intro φ w vs ok hl
     refine ⟨enters hE hf hb _ w,fun cs=>?_⟩
     obtain ⟨φ',w',m',tmps,todo,rW,fr,ht,hm,hs⟩:=run f fn c args h e1 s p none h' hf hb gF hp hu φ w vs ok hl cs
     obtain ⟨v',hv,gP⟩:=sW rW ht De
     rcases hm with ⟨_,rfl⟩ | ⟨v,v'',e,_⟩
     · exact ⟨φ',w',v',_,hv,rW,fr,hs,rfl,rfl,rfl,rfl,fn,hf,gP⟩
     · simp at e
 · obtain ⟨fn,c,e1,s,p,hf,hb,gF,hp,qi⟩:=key f args h _ e (by simp)
   rcases qi with ⟨v1,h1,he,hu⟩ | ⟨vs1,h1,he,_⟩
   · simp at he;obtain ⟨rfl,rfl⟩:=he
     intro φ w vs ok hl
     refine ⟨enters hE hf hb _ w,fun cs=>?_⟩
     obtain ⟨φ',w',m',tmps,todo,rW,fr,ht,hm,hs⟩:=run f fn c args h e1 s p (some v) h' hf hb gF hp hu φ w vs ok hl cs
     rcases hm with ⟨e,_⟩ | ⟨v2,v',e,hv,rfl⟩
     · simp at e
     · simp at e;subst e
       exact ⟨φ',w',v',_,hv,rW,fr,hs,rfl,rfl,rfl,fn,hf⟩
   · simp at he
namespace Fa
abbrev Im:=FuncId→List AV→ak→Option (AV×ak)
def FR (E:Env) (M:Im):Prop:=∀f args h v h',M f args h=some (v,h')→lN E f args h v h'
noncomputable def Io (nx:Nat) (l:List (Nat×aK)):ak:=List.rec (motive:=fun _=>ak) ⟨HT.nil,nx,fun _=>none⟩ (fun x _ h=>h.put x.1 (some x.2)) l
theorem D8 {nx:Nat}:∀{l:List (Nat×aK)} {i:Nat} {o:aK},(Io nx l).get i=some o→(i,o)∈l
 | [],i,o,e=>by
   have e:(ak.mk HT.nil nx fun _=>none).get i=some o:=e
   by_cases hi:i<262144
   · rw[ak.vp hi] at e
     have e:(hp i).get HT.nil=some o:=e
     rw[A_ hi,yp,A9] at e
     simp only[HT.nil,AO] at e
     cases e
   · rw[ak.qN hi] at e;cases e
 | x::xs,i,o,e=>by
   have e:((Io nx xs).put x.1 (some x.2)).get i=some o:=e
   by_cases h:x.1=i
   · subst h
     rw[ak.di] at e
     cases e;simp
   · rw[ak.bR h] at e
     exact List.mem_cons_of_mem _ (D8 e)
structure Ent where
 f:FuncId
 args:List AV
 nx:Nat
 K:List (Nat×aK)
 v:AV
 nx':Nat
 K':List (Nat×aK)
end Fa
end Go.Ab
end
section
namespace Go.Ab
variable {E:Env}
theorem LR.w9 {φ φ':Ph} {xs:List AV} {ys zs:List Value} (h:LR φ xs ys) (h':LR φ' xs zs) (ih:∀(i:Nat) (x:AV) (y z:Value),xs[i]? =some x→ys[i]? =some y→zs[i]? =some z→VR φ x z):LR φ xs zs:=by
 refine ⟨h'.1,fun i x z hx hz=>?_⟩
 have hi:i<xs.length:=(List.getElem?_eq_some_iff.1 hx).1
 have:i<ys.length:=by rw[←h.1];exact hi
 exact ih i x ys[i] z hx (by simp [this]) hz
theorem VR.back {φ φ':Ph} (hle:φ.le φ') {x:AV} {y:Value} (h:VR φ x y):∀{z:Value},VR φ' x z→VR φ x z:=by
 induction h with
 | bool b=>intro z h;cases h;exact .bool b
 | int k n=>intro z h;cases h;exact .int k n
 | str s=>
   intro z h
   generalize he:AV.str s.data.toList=q at h
   cases h with
   | str s'=>exact .str s'
   | _=>cases he
 | gC=>intro z h;cases h;exact .gC
 | ptr o h=>intro z h';cases h' with | ptr _ h'=>rw[hle _ _ h] at h';cases h';exact .ptr o h
 | aD=>intro z h;cases h;exact .aD
 | slice o len cap op h=>intro z h';cases h' with | slice _ _ _ _ h'=>rw[hle _ _ h] at h';cases h';exact .slice o len cap op h
 | ei a cap=>intro z h;cases h;exact .ei _ _
 | dQ=>intro z h;cases h;exact .dQ
 | map h=>intro z h';cases h' with | map h'=>rw[hle _ _ h] at h';cases h';exact .map h
 | func f a b a' b' la lb ha hb iha ihb=>
   intro z h
   obtain ⟨c,d,rfl,hc,hd⟩:=VR.A7 h
   have h1:LR φ a c.toList:=LR.w9 (ys:=a'.toList) ⟨by simpa using la,fun i x y p q=>ha i x y p (by simpa using q)⟩ hc fun i x y z p q r=>iha i x y p (by simpa using q) (hc.2 i x z p r)
   have h2:LR φ b d.toList:=LR.w9 (ys:=b'.toList) ⟨by simpa using lb,fun i x y p q=>hb i x y p (by simpa using q)⟩ hd fun i x y z p q r=>ihb i x y p (by simpa using q) (hd.2 i x z p r)
   have:=VR.PN f h1 h2
   simpa using this
 | nilFunc=>intro z h;cases h;exact .nilFunc
 | yield h=>intro z h';cases h' with | yield h'=>rw[hle _ _ h] at h';cases h';exact .yield h
 | iface t v v' h ih=>intro z h';cases h' with | iface _ _ _ h'=>exact .iface t v _ (ih h')
 | nilIface=>intro z h;cases h;exact .nilIface
 | agg cs iZ hl h ih=>
   intro z h'
   obtain ⟨d,rfl,hd⟩:=VR.ka h'
   have h1:LR φ cs d.toList:=LR.w9 (ys:=iZ.toList) ⟨by simpa using hl,fun i x y p q=>h i x y p (by simpa using q)⟩ hd fun i x y z p q r=>ih i x y p (by simpa using q) (hd.2 i x z p r)
   have:=VR.NY h1
   simpa using this
 | any v h=>intro z h';cases h' with | any _ h'=>exact .any _ h'
 | tuple cs iZ hl h ih=>
   intro z h'
   obtain ⟨d,rfl,hd⟩:=VR.DJ h'
   have h1:LR φ cs d.toList:=LR.w9 (ys:=iZ.toList) ⟨by simpa using hl,fun i x y p q=>h i x y p (by simpa using q)⟩ hd fun i x y z p q r=>ih i x y p (by simpa using q) (hd.2 i x z p r)
   have:=VR.tuple' h1
   simpa using this
theorem LR.back {φ φ':Ph} (hle:φ.le φ') {xs:List AV} {ys zs:List Value} (h:LR φ xs ys) (h':LR φ' xs zs):LR φ xs zs:=
 LR.w9 h h' fun i x y z p q r=>(h.2 i x y p q).back hle (h'.2 i x z p r)
theorem OR.back {φ φ':Ph} (hle:φ.le φ') {o:aK} {l:Loc} {x z:Option Obj} (h:OR E φ o l x) (h':OR E φ' o l z):OR E φ o l z:=by
 cases o with
 | cells cs e ro=>
   obtain ⟨C,e1,lo,hi,_,hc⟩:=h
   obtain ⟨D,e2,JG,ET,hz,hd⟩:=h'
   refine ⟨D,e2,JG,ET,hz,⟨hd.size,fun k x hk=>?_,hd.free,hd.zero⟩,hd.shape⟩
   obtain ⟨y,_,hy⟩:=hc.val k x hk
   obtain ⟨y',h1,P9⟩:=hd.val k x hk
   exact ⟨y',h1,hy.back hle P9⟩
 | map es clock=>
   obtain ⟨_,es1,_,hl,hv⟩:=h
   obtain ⟨h0,es2,hz,W5,hv'⟩:=h'
   refine ⟨h0,es2,hz,W5,fun i x y hx hy=>?_⟩
   have hi:i<es.length:=(List.getElem?_eq_some_iff.1 hx).1
   have:i<es1.toList.length:=by rw[←hl];exact hi
   have a:=hv i x _ hx (List.getElem?_eq_getElem this)
   have b:=hv' i x y hx hy
   exact ⟨a.key.back hle b.key,a.val.back hle b.val,b.born⟩
 | uU s pos=>exact h'
 | A3 m since seen qJ=>
   cases m with
   | none=>exact h'
   | some m=>
     obtain ⟨_,lm,hm,_⟩:=h
     obtain ⟨h0,lm',T8,hz⟩:=h'
     rw[hle _ _ hm] at T8;cases T8
     exact ⟨h0,lm,hm,hz⟩
 | loop st pd ts ps as_ bd dn=>
   obtain ⟨_,r,_,hr⟩:=h
   obtain ⟨h0,r',hz,PY⟩:=h'
   obtain ⟨ld,hd,_⟩:=hr.defers
   obtain ⟨ld',Xa,JH⟩:=PY.defers
   rw[hle _ _ hd] at Xa;cases Xa
   exact ⟨h0,r',hz,PY.state,PY.pending,hr.tmps.back hle PY.tmps,PY.params,PY.assign,PY.body,⟨ld,hd,JH⟩,PY.fn⟩
 | NV=>exact h'
def Has (h h':ak):Prop:=∀i o,h.get i=some o→h'.get i=some o
theorem Has.refl (h:ak):Has h h:=fun _ _ e=>e
theorem Has.trans {a b c:ak} (x:Has a b) (y:Has b c):Has a c:=fun i o e=>y i o (x i o e)
theorem OK.forget {φ φ':Ph} {h h':ak} {w w':World} (ok:OK E φ h w) (hle:φ.le φ') (rW:OK E φ' h' w') (hs:Has h h'):OK E φ h w' where
 An:=ok.An
 nx:=ok.nx
 vo:=ok.vo
 live i o l a b:=(ok.live i o l a b).back hle (rW.live i o l (hs i o a) (hle _ _ b))
 inj:=ok.inj
theorem Fr.forget {φ φ':Ph} {h h':ak} {w w':World} (f:Fr φ h w φ' h' w'):Fr φ h w φ h w' where
 ext:=Ph.le_refl φ
 old _ _:=rfl
 nx:=Nat.le_refl _
 os:=f.os
 tape:=f.tape
 output:=f.output
 size:=f.size
 C5:=f.C5
 own i o l a b c:= .inr ⟨i,o,l,a,b,c,rfl⟩
def AV.plain:Nat→AV→Bool
 | 0,_=>false
 | n+1,x=>match x with
   | .bool _ | .int .. | .str _ | .gC | .aD | .dQ | .nilFunc | .nilIface=>true
   | .iface _ v=>AV.plain n v
   | .agg cs=>cs.all (AV.plain n)
   | .tuple cs=>cs.all (AV.plain n)
   | _=>false
theorem VR.plain {φ φ':Ph}:∀(n:Nat) {x:AV} (_:AV.plain n x=true) {y:Value},VR φ' x y→VR φ x y
 | 0,_,h,_,_=>by cases h
 | n+1,x,h,y,hv=>by
   have ih:= @VR.plain φ φ' n
   cases hv with
   | bool b=>exact .bool b
   | int k m=>exact .int k m
   | str s=>exact .str s
   | gC=>exact .gC
   | aD=>exact .aD
   | dQ=>exact .dQ
   | nilFunc=>exact .nilFunc
   | nilIface=>exact .nilIface
   | iface t v v' h'=>exact .iface t v v' (ih (by simpa [AV.plain] using h) h')
   | agg cs iZ hl hc=>
     refine .agg cs iZ hl fun i x y a b=>ih ?_ (hc i x y a b)
     simp only[AV.plain,List.all_eq_true] at h
     exact h x (List.mem_of_getElem? a)
   | tuple cs iZ hl hc=>
     refine .tuple cs iZ hl fun i x y a b=>ih ?_ (hc i x y a b)
     simp only[AV.plain,List.all_eq_true] at h
     exact h x (List.mem_of_getElem? a)
   | _=>cases h
theorem lN.closed {f:FuncId} {args:List AV} {h':ak} {v:AV} (r:lN E f args (Fa.Io E.G []) v h') (ha:args.all (AV.plain 20)=true) (hv:AV.plain 20 v=true) (h:ak):lN E f args h v h:=fun φ w vs ok hl=>by
 let φ0:Ph:=fun i=>if i<E.G then φ i else none
 have hle:φ0.le φ:=fun i l e=>by
  simp only[φ0] at e
  split at e
  · exact e
  · cases e
 have Rl:∀{i o},(Fa.Io E.G []).get i=some o→False:=fun e=>by cases Fa.D8 e
 have ok0:OK E φ0 (Fa.Io E.G []) w:=by
  refine ⟨fun i l e=>?_,Nat.le_refl _,fun g hg=>?_,fun i o l e=>(Rl e).elim,fun i j o p l m e=>(Rl e).elim⟩
  · simp only[φ0] at e
    split at e
    · assumption
    · cases e
  · simp only[φ0,hg,if_true];exact ok.vo g hg
 have Yf:LR φ0 args vs:=⟨hl.1,fun i x y a b=>(hl.2 i x y a b).plain 20 (List.all_eq_true.1 ha x (List.mem_of_getElem? a))⟩
 obtain ⟨h1,h2⟩:=r φ0 w vs ok0 Yf
 refine ⟨h1,fun cs=>?_⟩
 obtain ⟨φ',w',v',fr,x1,x2,x3,x4⟩:=h2 cs
 have Xr:∀b,b<w.heap.size→w'.heap[b]? =w.heap[b]? :=fun b hb=>x3.C5 b hb fun i o l e=>(Rl e).elim
 refine ⟨φ,w',v',fr,x1.plain 20 hv,⟨ok.An,ok.nx,ok.vo,fun i o l a b=>?_,ok.inj⟩,⟨Ph.le_refl φ,fun _ _=>rfl,Nat.le_refl _,x3.os,x3.tape,x3.output,x3.size,fun b hb _=>Xr b hb,fun i o l a b c=> .inr ⟨i,o,l,a,b,c,rfl⟩⟩,x4⟩
 have hr:=ok.live i o l a b
 by_cases hb:l.fI<w.heap.size
 · rw[Xr _ hb];exact hr
 · rw[Array.getElem?_eq_none (by omega)] at hr
   exact hr.absurd.elim
end Go.Ab
end
