import Derived.Laws.Externs
import Derived.Lib.Bytealg
import Derived.Maps.Own
import Derived.Maps.Range
import Derived.Sort.KeysCollected
import GoSem.ClaimChange
import Derived.OpenShut
import Derived.FnData
import Derived.ChangeArms
import Derived.Test.YtjohpcpopggbkaaGreatA5
import Derived.Test.YtjohpcpopggbkaaGreatA3
import Derived.Test.YtjohpcpopggbkaaGreatA1
import Derived.Test.YtjohpcpopggbkaaGreatA4
set_option linter.unusedVariables false
set_option linter.unusedSimpArgs false
section
namespace Go.Ab.Fa
variable {E:Env} {F:RF} {n:Nat}
theorem gN {ts:List AV} {x:Operand} {a:AV} (h:dr E ts x=some a):eF E ts [x]=some [a]:=by simp [eF,dp,h]
theorem yG {ts:List AV} {x y:Operand} {a b:AV} (h:dr E ts x=some a) (h':dr E ts y=some b):eF E ts [x,y]=some [a,b]:=by simp [eF,dp,h,h']
theorem Lq (v:AV):Rq v=mK v:=by
 cases v with
 | str s=>show some (gJ s)=some s.length;rw[eA]
 | _=>rfl
theorem FJ {h:aq} {size m:Nat} {v:AV} {l:List AV} (e:H8 h size m v=some l):ez h size m v=some l:=by
 cases v with
 | aF=>
   obtain ⟨h1,e1⟩:=eB (show bc (Nat.beq m 0) (some []) none=some l from e)
   simp only[ez];rw[if_pos (kV h1)];exact e1
 | slice i o len c b=>
   obtain ⟨h1,e1⟩:=eB (show bc (Nat.ble m len) (ob none (fun obj=>tv (fun cs _ _=>bc (Nat.ble (o+m*size) (gJ cs)) (some (po (pn cs o) (m*size))) none) none obj) (h.get i)) none=some l from e)
   obtain ⟨obj,h2,e2⟩:=fb e1
   obtain ⟨cs,el,ro,rfl,e3⟩:=n4 e2
   obtain ⟨h3,e4⟩:=eB e3
   have h1:=ek h1
   have h3:=ek h3
   rw[eA] at h3
   rw[nm,nk] at e4
   simp only[ez,h2]
   rw[if_pos h1]
   by_cases h0:m=0
   · subst h0
     rw[if_pos rfl]
     rw[Nat.zero_mul,List.take_zero] at e4
     exact e4
   · rw[if_neg h0,if_pos h3];exact e4
 | _=>exact e
theorem Iz {h:aq} {obj:aP} {f:aq→AV×aq} {p:AV×aq} (e:ob none (fun h'=>some (f h')) (h.new obj)=some p):∃h',h.new obj=some h'∧p=f h':=by
 obtain ⟨h',h1,e1⟩:=fb e
 exact ⟨h',h1,(Option.some.inj e1).symm⟩
theorem Lr {argTypes:Array TypeId} {sT xT elem:TypeId} {xd:TypeDesc} {size bytes:Nat} {z:AV} (h1:argTypes[0]? =some sT) (h2:argTypes[1]? =some xT) (h3:E.P.underlying sT=some (.slice elem)) (h4:E.P.underlying xT=some xd)
 (h5:jY xd=false) (h6:bY E elem=some size) (h7:im E elem=some bytes) (h8:eW E elem=some z) (h9:z.cells.length=size)
 {h:aq} {s x:AV} {p:AV×aq} (e:Rr elem size bytes h s x=some p):bN E h argTypes s x=some p:=by
 obtain ⟨m,a1,e1⟩:=fb e
 rw[Lq] at a1
 obtain ⟨new,a2,e2⟩:=fb e1
 have a2:=FJ a2
 obtain ⟨a3,e3⟩:=eB e2
 obtain ⟨a4,e4⟩:=eB e3
 rw[nX,Bx] at a3
 have a4:=kV a4
 rw[eA] at a4
 unfold bN
 simp only[h1,h2,h3,h4,h5,h6,h7,h8,a1,a2]
 rw[if_neg (by simp)]
 rw[if_pos ⟨h9,a3,a4⟩]
 rcases l9 e4 with ⟨rfl,e5⟩ | ⟨i,o,len,cap,op,rfl,e5⟩
 · cases hm:Nat.beq m 0 with
   | true=>
     rw[hm,gW] at e5
     simp only;rw[if_pos (kV hm)];exact e5
   | false=>
     rw[hm,c_] at e5
     obtain ⟨a5,e6⟩:=eB e5
     have a5:(4*m+4096)*(bytes+1)≤1099511627776:=ek a5
     obtain ⟨h',a6,rfl⟩:=Iz e6
     simp only
     rw[if_neg (by intro ee;rw[ee] at hm;cases hm),if_pos a5]
     simp only[a6]
 · obtain ⟨obj,a5,e6⟩:=fb e5
   obtain ⟨cs,el,ro,rfl,e7⟩:=n4 e6
   obtain ⟨a6,e8⟩:=n3 e7
   subst a6
   simp only[a5]
   cases hc:Nat.ble (Nat.add len m) cap with
   | true=>
     rw[hc,gW] at e8
     have hc:len+m≤cap:=ek hc
     obtain ⟨a7,e9⟩:=eB e8
     have a7:o+(len+m)*size≤gJ cs:=ek a7
     rw[eA] at a7
     rw[if_pos hc,if_pos a7,←Option.some.inj e9,zZ];rfl
   | false=>
     rw[hc,c_] at e8
     have hc:cap<len+m:=iB hc
     obtain ⟨a7,e9⟩:=eB e8
     have a7:(4*(len+m)+4096)*(bytes+1)≤1099511627776:=ek a7
     obtain ⟨a8,TU⟩:=eB e9
     have a8:o+len*size≤gJ cs:=ek a8
     rw[eA] at a8
     rw[if_neg (by omega)]
     cases op with
     | true=>
       rw[gW] at TU
       obtain ⟨a9,YH⟩:=eB TU
       obtain ⟨TV,YI⟩:=eB YH
       have a9:=kV a9
       have TV:o+cap*size=gJ cs:=kV TV
       rw[eA] at TV
       obtain ⟨h',Rx,rfl⟩:=Iz YI
       rw[lA,nm,nk] at Rx
       rw[if_pos ⟨a7,a8,fun _=>⟨a9,TV⟩⟩]
       rw[if_pos rfl]
       have OS:(h.put i none).new (.cells ((cs.drop o).take (len*size)++new) elem false)=some h':=Rx
       simp only[OS];rfl
     | false=>
       rw[c_] at TU
       obtain ⟨h',Rx,rfl⟩:=Iz TU
       rw[lA,nm,nk] at Rx
       rw[if_pos ⟨a7,a8,fun hh=>by cases hh⟩]
       rw[if_neg (by simp)]
       have OS:h.new (.cells ((cs.drop o).take (len*size)++new) elem false)=some h':=Rx
       simp only[OS];rfl
theorem jw {b:Builtin} (h1:b≠ .len) (h2:b≠ .cap) (h3:b≠ .max) (h4:b≠ .min) (a:Array Operand) (t:Array TypeId):pw E (.call ⟨.builtin b,a,t⟩):=by
 cases b<;>first | exact absurd rfl h1 | exact absurd rfl h2 | exact absurd rfl h3 | exact absurd rfl h4 | exact ⟨fun _=>rfl,fun _ _=>rfl,fun _=>rfl⟩
theorem FK (a:Array Operand) (t:Array TypeId):eI E F n (.call ⟨.builtin .append,a,t⟩) (match a.toList with
 | [s,x]=>wO E F n s (fun gs=>wO E F n x (fun gx=>H9 E t gs gx) .bad) .bad
 | _=> .bad):=by
 have nn:pw E (.call ⟨.builtin .append,a,t⟩):=jw (by simp) (by simp) (by simp) (by simp) a t
 generalize hl:a.toList=l
 match l with
 | []=>trivial
 | [_]=>trivial
 | _::_::_::_=>trivial
 | [s,x]=>
   simp only
   rcases bH E F n s (fun gs=>wO E F n x (fun gx=>H9 E t gs gx) .bad) (.bad:Kd F.T) with h | ⟨gs,h,hs⟩<;>rw[h]
   · trivial
   rcases bH E F n x (fun gx=>H9 E t gs gx) (.bad:Kd F.T) with h | ⟨gx,h,hx⟩<;>rw[h]
   · trivial
   unfold H9
   simp only[ft,Array.getElem?_toList,gB,mc,Ik,tD]
   have fin:∀(f:F.T→aq→Option (AV×aq)),(∀r h p,f r h=some p→bN E h t (gs r) (gx r)=some p)→eI E F n (.call ⟨.builtin .append,a,t⟩) (.wr f):=by
    intro f hf
    refine ⟨nn,fun call r h rc o p ho e=>?_⟩
    simp only[cD,ho,hl,yG (hs r) (hx r),hf r h p e]
   cases h1:t[0]? with
   | none=>trivial
   | some sT=>cases h2:t[1]? with
     | none=>trivial
     | some xT=>
       simp only
       cases h3:E.P.underlying sT with
       | none=>trivial
       | some sd=>cases h4:E.P.underlying xT with
         | none=>cases sd<;>trivial
         | some xd=>cases sd with
           | slice elem=>
             simp only
             cases h5:jY xd with
             | true=>
               rw[if_pos rfl]
               apply fin
               intro r h p e
               unfold bN
               simp only[h1,h2,h3,h4,h5]
               rw[if_pos trivial];exact e
             | false=>
               rw[if_neg (by simp)]
               cases h6:bY E elem with
               | none=>trivial
               | some size=>cases h7:im E elem with
                 | none=>trivial
                 | some bytes=>cases h8:eW E elem with
                   | none=>trivial
                   | some z=>
                     simp only
                     by_cases h9:z.cells.length=size
                     · rw[if_pos h9]
                       exact fin _ fun r h p e=>Lr h1 h2 h3 h4 h5 h6 h7 h8 h9 e
                     · rw[if_neg h9];trivial
           | _=>trivial
theorem Er (a:Array Operand) (t:Array TypeId):eI E F n (.call ⟨.builtin .copy,a,t⟩) (match a.toList with
 | [s,x]=>wO E F n s (fun gs=>wO E F n x (fun gx=> .wr fun r h=>qt E h t (gs r) (gx r)) .bad) .bad
 | _=> .bad):=by
 have nn:pw E (.call ⟨.builtin .copy,a,t⟩):=jw (by simp) (by simp) (by simp) (by simp) a t
 generalize hl:a.toList=l
 match l with
 | []=>trivial
 | [_]=>trivial
 | _::_::_::_=>trivial
 | [s,x]=>
   simp only
   rcases bH E F n s (fun gs=>wO E F n x (fun gx=>(.wr fun r h=>qt E h t (gs r) (gx r):Kd F.T)) .bad) (.bad:Kd F.T) with h | ⟨gs,h,hs⟩<;>rw[h]
   · trivial
   rcases bH E F n x (fun gx=>(.wr fun r h=>qt E h t (gs r) (gx r):Kd F.T)) (.bad:Kd F.T) with h | ⟨gx,h,hx⟩<;>rw[h]
   · trivial
   refine ⟨nn,fun call r h rc o p ho e=>?_⟩
   simp only[cD,ho,hl,yG (hs r) (hx r),e]
theorem Dd (a:Array Operand) (t:Array TypeId):eI E F n (.call ⟨.builtin .recover,a,t⟩) (.qi fun _ _ h rc=>match rc with
 | .gH x=> .ov x
 | .AE _=> .fail "" none
 | _=> .val .nilIface h):=by
 refine ⟨jw (by simp) (by simp) (by simp) (by simp) a t,fun fc call _ r h rc o ho=>?_⟩
 simp only[cD,ho]
 cases rc<;>first | trivial | rfl
theorem OT (a:Array Operand) (t:Array TypeId):eI E F n (.call ⟨.builtin .len,a,t⟩) (match gK t.toList 0,a.toList with
 | some t,[x]=>wO E F n x (fun g=>match h_ E.P t with
   | some .string=> .fi fun r=>nV (fun s=>some (.int .i64 (Int.ofNat (gJ s)))) none (g r)
   | some (.array m _)=> .fi fun _=>some (.int .i64 (Int.ofNat m))
   | some (.slice _)=> .fi fun r=>hB (some (.int .i64 (Int.ofNat 0))) (fun _ _ m _ _=>some (.int .i64 (Int.ofNat m))) (vZ (some (.int .i64 (Int.ofNat 0))) none (g r)) (g r)
   | some (.map _ _)=> .red fun r h=>D_ h (g r)
   | _=> .bad) .bad
 | _,_=> .bad):=by
 rw[ft,Array.getElem?_toList]
 cases ht:t[0]? with
 | none=>trivial
 | some tt=>
   generalize hl:a.toList=l
   match l with
   | []=>trivial
   | _::_::_=>trivial
   | [x]=>
     simp only[gB]
     rcases bH E F n x (fun g=>match E.P.underlying tt with
      | some .string=>(.fi fun r=>nV (fun s=>some (.int .i64 (Int.ofNat (gJ s)))) none (g r):Kd F.T)
      | some (.array m _)=> .fi fun _=>some (.int .i64 (Int.ofNat m))
      | some (.slice _)=> .fi fun r=>hB (some (.int .i64 (Int.ofNat 0))) (fun _ _ m _ _=>some (.int .i64 (Int.ofNat m))) (vZ (some (.int .i64 (Int.ofNat 0))) none (g r)) (g r)
      | some (.map _ _)=> .red fun r h=>D_ h (g r)
      | _=> .bad) .bad with h | ⟨g,h,hg⟩<;>rw[h]
     · trivial
     cases hu:E.P.underlying tt with
     | none=>trivial
     | some d=>cases d with
       | string=>
         intro r v e
         obtain ⟨s,e1,e2⟩:=l8 e
         simp only[bm,ht,hl,gN (hg r),hu,e1]
         rw[←e2,eA];rfl
       | array m el=>
         intro r v e
         simp only[bm,ht,hl,gN (hg r),hu]
         exact e
       | slice el=>
         intro r v e
         rcases Bw e with ⟨e1,e2⟩ | ⟨i,o,l,c,b,e1,e2⟩ | ⟨e1,e2⟩
         · simp only[bm,ht,hl,gN (hg r),hu,e1];exact e2
         · simp only[bm,ht,hl,gN (hg r),hu,e1];exact e2
         · simp only[bm,ht,hl,gN (hg r),hu,e1];exact e2
       | map key el=>
         intro r h v e
         have e:D_ h (g r)=some v:=e
         generalize hm:g r=m at e
         cases m with
         | cZ=>exact .inl (by simp only[bm,ht,hl,gN (hg r),hu,hm];exact e)
         | map i=>
           refine .inr ⟨by simp only[bm,ht,hl,gN (hg r),hu,hm],?_⟩
           obtain ⟨o,h3,h4⟩:=fb (show ob none (fun o=>K6 (fun es=>some (AV.int .i64 (Int.ofNat (gJ es)))) none o) (h.get i)=some v from e)
           cases o with
           | map es c=>
             have h4:some (AV.int .i64 (Int.ofNat (gJ es)))=some v:=h4
             simp only[c9,ht,hl,gN (hg r),hu,hm,h3]
             rw[←h4,eA];rfl
           | _=>cases h4
         | _=>cases e
       | _=>trivial
theorem OU (a:Array Operand) (t:Array TypeId):eI E F n (.call ⟨.builtin .cap,a,t⟩) (match gK t.toList 0,a.toList with
 | some t,[x]=>wO E F n x (fun g=>match h_ E.P t with
   | some (.slice _)=> .fi fun r=>hB (some (.int .i64 (Int.ofNat 0))) (fun _ _ _ c b=>bc b none (some (.int .i64 (Int.ofNat c)))) none (g r)
   | _=> .bad) .bad
 | _,_=> .bad):=by
 rw[ft,Array.getElem?_toList]
 cases ht:t[0]? with
 | none=>trivial
 | some tt=>
   generalize hl:a.toList=l
   match l with
   | []=>trivial
   | _::_::_=>trivial
   | [x]=>
     simp only[gB]
     rcases bH E F n x (fun g=>match E.P.underlying tt with
      | some (.slice _)=>(.fi fun r=>hB (some (.int .i64 (Int.ofNat 0))) (fun _ _ _ c b=>bc b none (some (.int .i64 (Int.ofNat c)))) none (g r):Kd F.T)
      | _=> .bad) .bad with h | ⟨g,h,hg⟩<;>rw[h]
     · trivial
     cases hu:E.P.underlying tt with
     | none=>trivial
     | some d=>cases d with
       | slice el=>
         intro r v e
         rcases l9 e with ⟨e1,e2⟩ | ⟨i,o,l,c,b,e1,e2⟩
         · simp only[bm,ht,hl,gN (hg r),hu,e1];exact e2
         · obtain ⟨rfl,e3⟩:=n3 e2
           simp only[bm,ht,hl,gN (hg r),hu,e1];exact e3
       | _=>trivial
theorem FL (f:FuncId) (a:Array Operand) (t:Array TypeId):eI E F n (.call ⟨.value (.func f),a,t⟩) (wL E F n a.toList (fun gs=>match E.km f with
 | some e=> .fi fun r=>e (gs r)
 | none=>match E.gu f with
   | some g=> .wr fun r h=>g (gs r) h
   | none=> .call (.fn f) gs) .bad):=by
 rcases qb E F n a.toList (fun gs=>match E.km f with
  | some e=>(.fi fun r=>e (gs r):Kd F.T)
  | none=>match E.gu f with
    | some g=> .wr fun r h=>g (gs r) h
    | none=> .call (.fn f) gs) .bad with h | ⟨gs,h,hg⟩<;>rw[h]
 · trivial
 cases hp:E.km f with
 | some e=>
   intro r v h
   simp only[bm,hp,hg];exact h
 | none=>
   have nn:pw E (.call ⟨.value (.func f),a,t⟩):=⟨fun _=>by simp only[bm,hp],fun _ _=>rfl,fun _=>rfl⟩
   have hc:∀r,callee E (dJ F n r) ⟨.value (.func f),a,t⟩=some (.fn f,gs r):=by
    intro r
    simp only[callee,hg,dr]
    simp
   cases hs:E.gu f with
   | some g=>
     refine ⟨nn,fun call r h rc o p ho e=>?_⟩
     have e':g (gs r) h=some p:=e
     simp only[cD,ho,hc,hT,hs,e']
   | none=>
     refine ⟨nn,fun call r h rc o ho=>?_⟩
     simp only[cD,ho,hc,hT,hs]
     cases call (.fn f) (gs r) h<;>rfl
theorem v9 {a b:gQ} (h1:∀v h',a= .ret v h'→b= .ret v h') (h2:∀v h',a= .panic v h'→b= .panic v h'):MZ (kC a) (kC b):=by
 cases a with
 | ret v h=>rw[h1 v h rfl];rfl
 | panic v h=>rw[h2 v h rfl];rfl
 | fail _ _=>trivial
theorem qX (x:Operand) (hx:∀f,x≠ .func f) (a:Array Operand) (t:Array TypeId):eI E F n (.call ⟨.value x,a,t⟩) (wO E F n x (fun gf=>wL E F n a.toList (fun gs=> .qi fun call r h _=>D7
 (fun g first captured=>ob (kC (call (.fn g) (jk first (jk (gs r) captured)) h)) (fun sp=>ob (.fail "" none) (fun p=> .val p.1 p.2) (sp (jk first (jk (gs r) captured)) h)) (E.gu g))
 (fun l=>kC (call (.tV l) (gs r) h)) (.fail "" none) (gf r)) .bad) .bad):=by
 have nn:pw E (.call ⟨.value x,a,t⟩):=by
  cases x with
  | func f=>exact absurd rfl (hx f)
  | _=>exact ⟨fun _=>rfl,fun _ _=>rfl,fun _=>rfl⟩
 let K:(F.T→AV)→(F.T→List AV)→Kd F.T:=fun gf gs=> .qi fun call r h _=>D7
  (fun g first captured=>ob (kC (call (.fn g) (jk first (jk (gs r) captured)) h)) (fun sp=>ob (.fail "" none) (fun p=> .val p.1 p.2) (sp (jk first (jk (gs r) captured)) h)) (E.gu g))
  (fun l=>kC (call (.tV l) (gs r) h)) (.fail "" none) (gf r)
 show eI E F n _ (wO E F n x (fun gf=>wL E F n a.toList (fun gs=>K gf gs) .bad) .bad)
 rcases bH E F n x (fun gf=>wL E F n a.toList (fun gs=>K gf gs) .bad) .bad with h | ⟨gf,h,hf⟩<;>rw[h]
 · trivial
 rcases qb E F n a.toList (fun gs=>K gf gs) .bad with h | ⟨gs,h,hg⟩<;>rw[h]
 · trivial
 refine ⟨nn,fun fc call hle r h rc o ho=>?_⟩
 have ec:∀R,callee E (dJ F n r) ⟨.value x,a,t⟩=R→cD E call (dJ F n r) h rc o=(match R with
  | some (f,args)=>match hT E f with
    | some g=>(match g args h with | some (x,h')=> .val x h' | none=> .fail "eff" (some o))
    | none=>kC (call f args h)
  | none=> .fail "callee" (some o)):=by
  intro R hR
  simp only[cD,ho,hR]
  cases R with
  | none=>rfl
  | some p=>
    obtain ⟨f,args⟩:=p
    simp only
    cases hT E f with
    | none=>simp only;cases call f args h<;>rfl
    | some g=>rfl
 show MZ (D7 _ _ _ (gf r)) _
 cases hv:gf r with
 | func g first captured=>
   have hc:callee E (dJ F n r) ⟨.value x,a,t⟩=some (.fn g,first++gs r++captured):=by
    simp only[callee,hf,hg,hv]
   rw[ec _ hc]
   have ha:jk first (jk (gs r) captured)=first++gs r++captured:=by rw[lA,lA,List.append_assoc]
   show MZ (ob (kC (fc (.fn g) (jk first (jk (gs r) captured)) h)) (fun sp=>ob (.fail "" none) (fun p=> .val p.1 p.2) (sp (jk first (jk (gs r) captured)) h)) (E.gu g)) _
   rw[ha]
   simp only[hT]
   cases hs:E.gu g with
   | none=>exact v9 (hle _ _ _).1 (hle _ _ _).2
   | some sp=>
     show MZ (ob (.fail "" none) (fun p=> .val p.1 p.2) (sp (first++gs r++captured) h)) _
     simp only
     cases sp (first++gs r++captured) h with
     | none=>trivial
     | some p=>rfl
 | oQ l=>
   have hc:callee E (dJ F n r) ⟨.value x,a,t⟩=some (.tV l,gs r):=by
    simp only[callee,hf,hg,hv]
   rw[ec _ hc]
   simp only[hT]
   exact v9 (hle _ _ _).1 (hle _ _ _).2
 | _=>trivial
theorem FM (x:Operand) (name:String) (a:Array Operand) (t:Array TypeId):eI E F n (.call ⟨.invoke x name,a,t⟩) (wO E F n x (fun gx=>wL E F n a.toList (fun gs=> .qi fun call r h _=>nW
 (fun t v=>ob (.fail "" none) (fun f=>kC (call (.fn f) (v::gs r) h)) (Bt E t name)) (.fail "" none) (gx r)) .bad) .bad):=by
 have nn:pw E (.call ⟨.invoke x name,a,t⟩):=⟨fun _=>rfl,fun _ _=>rfl,fun _=>rfl⟩
 let K:(F.T→AV)→(F.T→List AV)→Kd F.T:=fun gx gs=> .qi fun call r h _=>nW
  (fun t v=>ob (.fail "" none) (fun f=>kC (call (.fn f) (v::gs r) h)) (Bt E t name)) (.fail "" none) (gx r)
 show eI E F n _ (wO E F n x (fun gx=>wL E F n a.toList (fun gs=>K gx gs) .bad) .bad)
 rcases bH E F n x (fun gx=>wL E F n a.toList (fun gs=>K gx gs) .bad) .bad with h | ⟨gx,h,hx⟩<;>rw[h]
 · trivial
 rcases qb E F n a.toList (fun gs=>K gx gs) .bad with h | ⟨gs,h,hg⟩<;>rw[h]
 · trivial
 refine ⟨nn,fun fc call hle r h rc o ho=>?_⟩
 show MZ (nW _ _ (gx r)) _
 cases hv:gx r with
 | iface u v=>
   show MZ (ob (.fail "" none) (fun f=>kC (fc (.fn f) (v::gs r) h)) (Bt E u name)) _
   cases hm:Bt E u name with
   | none=>trivial
   | some f=>
     have OV:rz E u name=some f:=hm
     have ec:cD E call (dJ F n r) h rc o=kC (call (.fn f) (v::gs r) h):=by
      simp only[cD,ho,hx,hg,hv,OV]
      cases call (.fn f) (v::gs r) h<;>rfl
     rw[ec]
     exact v9 (hle _ _ _).1 (hle _ _ _).2
 | _=>trivial
theorem IA (c:Call):eI E F n (.call c) (MW E F n c (.call c)):=by
 obtain ⟨dH,a,t⟩:=c
 cases dH with
 | value x=>cases x with
   | func f=>exact FL f a t
   | tmp x=>exact qX (.tmp x) (by simp) a t
   | const x=>exact qX (.const x) (by simp) a t
   | global x=>exact qX (.global x) (by simp) a t
 | invoke r m=>exact FM r m a t
 | builtin b=>cases b with
   | append=>exact FK a t
   | copy=>exact Er a t
   | recover=>exact Dd a t
   | len=>exact OT a t
   | cap=>exact OU a t
   | max=>exact fun r v e=>e
   | min=>exact fun r v e=>e
   | _=>trivial
theorem BF (op:Op):eI E F n op (qz E F n op):=by
 cases op with
 | move x=>
   show eI E F n _ (wO E F n x .AH .bad)
   rcases bH E F n x .AH (.bad:Kd F.T) with h | ⟨g,h,hg⟩<;>rw[h]
   · trivial
   · exact hg
 | assign x=>
   show eI E F n _ (wO E F n x .AH .bad)
   rcases bH E F n x .AH (.bad:Kd F.T) with h | ⟨g,h,hg⟩<;>rw[h]
   · trivial
   · exact hg
 | pick c a b=>exact Lm c a b
 | binOp op t x y yt=>
   show eI E F n _ (wO E F n x (fun gx=>wO E F n y (fun gy=>dX op (jq E op t (isConst x) (isConst y)) gx gy) .bad) .bad)
   rcases bH E F n x (fun gx=>wO E F n y (fun gy=>dX op (jq E op t (isConst x) (isConst y)) gx gy) .bad) (.bad:Kd F.T) with h | ⟨gx,h,hx⟩<;>rw[h]
   · trivial
   rcases bH E F n y (fun gy=>dX op (jq E op t (isConst x) (isConst y)) gx gy) (.bad:Kd F.T) with h | ⟨gy,h,hy⟩<;>rw[h]
   · trivial
   exact Lk op t x y yt gx gy hx hy
 | unOp op t x=>
   show eI E F n _ (wO E F n x (Rp op) .bad)
   rcases bH E F n x (Rp op) (.bad:Kd F.T) with h | ⟨g,h,hg⟩<;>rw[h]
   · trivial
   exact OM op t x g hg
 | fieldAddr s x f=>exact z5 s x f
 | load t a=>exact Ll t a
 | store t a x=>exact It t a x
 | nilCheck x=>exact Bz x
 | extract x i=>exact Db x i
 | field s x f=>exact Iq s x f
 | indexAddr t x ix=>exact z7 t x ix
 | index t x ix=>exact Ir t x ix
 | slice t x lo hi mx=>cases mx with
   | none=>exact Is t x lo hi
   | some m=>exact fun r v e=>e
 | convert s d x=>exact Dc s d x
 | makeInterface t x=>exact tE t x
 | makeFunc f a b=>cases f with
   | func f=>exact BC f a b
   | _=>trivial
 | alloc t=>exact Iu t
 | box t x=>exact OQ t x
 | buildSlice t len parts=>exact xN t len parts
 | makeSlice t l c=>exact z8 t l c
 | makeMap t r=>cases r with
   | none=>exact ⟨fun _=>rfl,fun _ _=>rfl,fun r p e=>e⟩
   | some x=>exact ⟨fun _=>rfl,fun _ _=>rfl,fun r p e=>e⟩
 | range t x=>exact ⟨fun _=>rfl,fun _ _=>rfl,fun r p e=>e⟩
 | lookup t x ix ok=>exact FH t x ix ok
 | build t parts=>exact Iw t parts
 | typeAssert x a b ok=>exact fun r v e=>e
 | mapUpdate t m k x=>exact z9 t m k x
 | insert t m k x=>exact FI t m k x
 | next it s=>exact Lp it s
 | panic x=>exact Ix x
 | defer c=>exact Iy c
 | call c=>exact IA c
 | _=>trivial
end Go.Ab.Fa
end
section
namespace Go.Ab.Fa
variable {E:Env} {F:RF} {n:Nat}
def oI (_E:Env) (F:RF) (n:Nat) (o:FO F.T) (out:Out):Prop:=match o with
 | .Bq r h y=>out= .ok .normal ⟨dJ F n r,h,y.ds,y.rc⟩
 | .jmp e r h y=>e≠ .normal∧out= .ok e ⟨dJ F n r,h,y.ds,y.rc⟩
 | .bad=>True
theorem z_ {call:aY} {s:St} {o:Oper} {v:AV} (h:bm E s.ts o.op=some v):zk E call s o= .ok .normal {s with ts:=cU s.ts o.dst v}:=by
 simp only[zk,h]
theorem Ls {call:aY} {s:St} {o:Oper} {v:AV} (h0:bm E s.ts o.op=none) (h:c9 E s.ts s.h o.op=some v):zk E call s o= .ok .normal {s with ts:=cU s.ts o.dst v}:=by
 simp only[zk,h0,h]
theorem Aa {call:aY} {s:St} {o:Oper} (nn:pw E o.op):zk E call s o=(match cD E call s.ts s.h s.rc o with
 | .val v h'=> .ok .normal {s with ts:=cU s.ts o.dst v,h:=h'}
 | .defer d=> .ok .normal {s with ts:=cU s.ts o.dst AV.undef,ds:=d::s.ds}
 | .ov v=> .ok .normal {s with ts:=cU s.ts o.dst v,rc:= .done}
 | .panic v h'=> .ok (.panic v) {s with h:=h'}
 | .fail why q=> .fail why q):=by
 simp only[zk,nn.1,nn.2.1,nn.2.2]
 generalize cD E call s.ts s.h s.rc o=x
 cases x<;>rfl
noncomputable def Ry (E:Env) (call:aY) (ops:Array Oper) (rest:List Oper) (out:Out):Out:=match out with
 | .ok .normal s'=>iu E call ops rest s'
 | r=>r
theorem Lt {ops:Array Oper} {o:Oper} {rest:List Oper} {kd:Kd F.T} {s:AV→F.T→F.T} {j:I F.T} {fc call:aY} (hle:iC fc call) (hk:eI E F n o.op kd)
 (hs:∀v r,cU (dJ F n r) o.dst v=dJ F n (s v r)) (hj:∀r h y,oI E F n (j.run fc r h y) (iu E call ops rest ⟨dJ F n r,h,y.ds,y.rc⟩)) (r:F.T) (h:aq) (y:Y):
 oI E F n ((C7 kd s j).run fc r h y) (Ry E call ops rest (zk E call ⟨dJ F n r,h,y.ds,y.rc⟩ o)):=by
 cases kd with
 | AH g=>
   rw[z_ (s:=⟨dJ F n r,h,y.ds,y.rc⟩) (hk r)]
   show oI E F n (j.run fc (s (g r) r) h y) (iu E call ops rest ⟨cU (dJ F n r) o.dst (g r),h,y.ds,y.rc⟩)
   rw[hs];exact hj _ _ _
 | fi f=>
   show oI E F n (ob .bad (fun v=>j.run fc (s v r) h y) (f r)) _
   cases hf:f r with
   | none=>trivial
   | some v=>
     rw[z_ (s:=⟨dJ F n r,h,y.ds,y.rc⟩) (hk r v hf)]
     show oI E F n (j.run fc (s v r) h y) (iu E call ops rest ⟨cU (dJ F n r) o.dst v,h,y.ds,y.rc⟩)
     rw[hs];exact hj _ _ _
 | red f=>
   show oI E F n (ob .bad (fun v=>j.run fc (s v r) h y) (f r h)) _
   cases hf:f r h with
   | none=>trivial
   | some v=>
     rcases hk r h v hf with h0 | ⟨h0,h1⟩
     · rw[z_ (s:=⟨dJ F n r,h,y.ds,y.rc⟩) h0]
       show oI E F n (j.run fc (s v r) h y) (iu E call ops rest ⟨cU (dJ F n r) o.dst v,h,y.ds,y.rc⟩)
       rw[hs];exact hj _ _ _
     rw[Ls (s:=⟨dJ F n r,h,y.ds,y.rc⟩) h0 h1]
     show oI E F n (j.run fc (s v r) h y) (iu E call ops rest ⟨cU (dJ F n r) o.dst v,h,y.ds,y.rc⟩)
     rw[hs];exact hj _ _ _
 | oW f=>
   obtain ⟨h0,h1,h2⟩:=hk
   show oI E F n (ob .bad (fun p=>ob .bad (fun h'=>j.run fc (s (p.2 h.nx) r) h' y) (h.new p.1)) (f r)) _
   cases hf:f r with
   | none=>trivial
   | some p=>
     obtain ⟨obj,mk⟩:=p
     show oI E F n (ob .bad (fun h'=>j.run fc (s (mk h.nx) r) h' y) (h.new obj)) _
     cases hh:h.new obj with
     | none=>trivial
     | some h'=>
       have:zk E call ⟨dJ F n r,h,y.ds,y.rc⟩ o= .ok .normal ⟨cU (dJ F n r) o.dst (mk h.nx),h',y.ds,y.rc⟩:=by
        simp only[zk,h0,h1,h2 r _ hf,hh]
       rw[this,hs];exact hj _ _ _
 | wr f=>
   obtain ⟨nn,h1⟩:=hk
   show oI E F n (ob .bad (fun p=>j.run fc (s p.1 r) p.2 y) (f r h)) _
   cases hf:f r h with
   | none=>trivial
   | some p=>
     rw[Aa nn,h1 call r h y.rc o p rfl hf]
     show oI E F n (j.run fc (s p.1 r) p.2 y) (iu E call ops rest ⟨cU (dJ F n r) o.dst p.1,p.2,y.ds,y.rc⟩)
     rw[hs];exact hj _ _ _
 | call g args=>
   obtain ⟨nn,h1⟩:=hk
   rw[Aa nn,h1 call r h y.rc o rfl]
   show oI E F n (gQ.rec (motive:=fun _=>FO F.T) (fun v h'=>j.run fc (s v r) h' y) (fun v h'=> .jmp (.panic v) r h' y) (fun _ _=> .bad) (fc g (args r) h)) _
   cases hc:fc g (args r) h with
   | fail _ _=>trivial
   | ret v h'=>
     rw[(hle _ _ _).1 v h' hc]
     show oI E F n (j.run fc (s v r) h' y) (iu E call ops rest ⟨cU (dJ F n r) o.dst v,h',y.ds,y.rc⟩)
     rw[hs];exact hj _ _ _
   | panic v h'=>
     rw[(hle _ _ _).2 v h' hc]
     exact ⟨by simp,rfl⟩
 | qi f=>
   obtain ⟨nn,h1⟩:=hk
   rw[Aa nn]
   have h2:=h1 fc call hle r h y.rc o rfl
   show oI E F n (sX.rec (motive:=fun _=>FO F.T) (fun v h'=>j.run fc (s v r) h' y) (fun d=>j.run fc (s AV.undef r) h ⟨d::y.ds,y.rc⟩) (fun v=>j.run fc (s v r) h ⟨y.ds,.done⟩)
    (fun v h'=> .jmp (.panic v) r h' y) (fun _ _=> .bad) (f fc r h y.rc)) _
   cases he:f fc r h y.rc with
   | fail _ _=>trivial
   | val v h'=>
     rw[he] at h2
     have h2:cD E call (dJ F n r) h y.rc o= .val v h':=h2
     rw[h2]
     show oI E F n (j.run fc (s v r) h' y) (iu E call ops rest ⟨cU (dJ F n r) o.dst v,h',y.ds,y.rc⟩)
     rw[hs];exact hj _ _ _
   | defer d=>
     rw[he] at h2
     have h2:cD E call (dJ F n r) h y.rc o= .defer d:=h2
     rw[h2]
     show oI E F n (j.run fc (s AV.undef r) h ⟨d::y.ds,y.rc⟩) (iu E call ops rest ⟨cU (dJ F n r) o.dst AV.undef,h,d::y.ds,y.rc⟩)
     rw[hs];exact hj _ _ ⟨d::y.ds,y.rc⟩
   | ov v=>
     rw[he] at h2
     have h2:cD E call (dJ F n r) h y.rc o= .ov v:=h2
     rw[h2]
     show oI E F n (j.run fc (s v r) h ⟨y.ds,.done⟩) (iu E call ops rest ⟨cU (dJ F n r) o.dst v,h,y.ds,.done⟩)
     rw[hs];exact hj _ _ ⟨y.ds,.done⟩
   | panic v h'=>
     rw[he] at h2
     have h2:cD E call (dJ F n r) h y.rc o= .panic v h':=h2
     rw[h2]
     exact ⟨by simp,rfl⟩
 | bad=>trivial
def tF (ts:List AV) (d:Nat) (want:Bool):Bool:=match ts[d]? with
 | some (.bool b)=>b==want
 | _=>false
theorem ui {ts:List AV} {d:Nat} (h:ts.length≤d) (want:Bool):tF ts d want=false:=by
 unfold tF;rw[List.getElem?_eq_none h]
theorem uj {ts:List AV} {d:Nat} {v:AV} (h:ts[d]? =some v) (want:Bool):tF ts d want=g_ (fun b=>b==want) false v:=by
 unfold tF;rw[h];cases v<;>rfl
theorem rY (ops:Array Oper) (ts:List AV) (o:Oper) {j:Nat} {want:Bool} (hg:o.guard=some (j,want)):b_ ops ts o=(match (ops[j]?).bind (·.dst) with
 | some d=>match ts[d]? with
   | some (.bool b)=>b==want
   | _=>false
 | none=>false):=by simp only[b_,hg];rfl
theorem IB (ops:Array Oper) (j:Nat):ob none (fun p=>p.dst) (gK ops.toList j)=(ops[j]?).bind (·.dst):=by
 rw[ft,Array.getElem?_toList];cases ops[j]? <;>rfl
theorem IC (YJ:n≤F.N) (ops:Array Oper) (o:Oper) (a b:I F.T) (call:aY) (r:F.T) (h:aq) (y:Y):
 (Eb F n ops o a b).run call r h y=bif b_ ops (dJ F n r) o then a.run call r h y else b.run call r h y:=by
 unfold Eb
 cases hg:o.guard with
 | none=>simp only[b_,hg];rfl
 | some p=>
   obtain ⟨j,want⟩:=p
   rw[rY ops _ o hg]
   simp only[IB]
   cases (ops[j]?).bind (·.dst) with
   | none=>rfl
   | some d=>
     show (bc (Nat.ble n d) b (C8 (F.get d).f want a b)).run call r h y=bif tF (dJ F n r) d want then a.run call r h y else b.run call r h y
     cases hd:Nat.ble n d with
     | true=>
       rw[ui (by rw[gA];exact ek hd)];rfl
     | false=>
       rw[uj (pZ F n r (iB hd)),c_]
       cases want with
       | true=>
         show g_ (fun t=>bc t (a.run call r h y) (b.run call r h y)) (b.run call r h y) ((F.get d).f r)=_
         cases (F.get d).f r with
         | bool t=>cases t<;>rfl
         | _=>rfl
       | false=>
         show g_ (fun t=>bc t (b.run call r h y) (a.run call r h y)) (b.run call r h y) ((F.get d).f r)=_
         cases (F.get d).f r with
         | bool t=>cases t<;>rfl
         | _=>rfl
theorem BG (YJ:n≤F.N) (ops:Array Oper) (o:Oper) (a b:D F.T) (call:aY) (r:F.T) (h:aq) (y:Y):
 (uf F n ops o a b).run call r h y=bif b_ ops (dJ F n r) o then a.run call r h y else b.run call r h y:=by
 unfold uf
 cases hg:o.guard with
 | none=>simp only[b_,hg];rfl
 | some p=>
   obtain ⟨j,want⟩:=p
   rw[rY ops _ o hg]
   simp only[IB]
   cases (ops[j]?).bind (·.dst) with
   | none=>rfl
   | some d=>
     show (bc (Nat.ble n d) b (Ia (F.get d).f want a b)).run call r h y=bif tF (dJ F n r) d want then a.run call r h y else b.run call r h y
     cases hd:Nat.ble n d with
     | true=>
       rw[ui (by rw[gA];exact ek hd)];rfl
     | false=>
       rw[uj (pZ F n r (iB hd)),c_]
       cases want with
       | true=>
         show g_ (fun t=>bc t (a.run call r h y) (b.run call r h y)) (b.run call r h y) ((F.get d).f r)=_
         cases (F.get d).f r with
         | bool t=>cases t<;>rfl
         | _=>rfl
       | false=>
         show g_ (fun t=>bc t (b.run call r h y) (a.run call r h y)) (b.run call r h y) ((F.get d).f r)=_
         cases (F.get d).f r with
         | bool t=>cases t<;>rfl
         | _=>rfl
theorem v_ (hn:n≤F.N) {fc call:aY} (hle:iC fc call) (ops:Array Oper):∀(l:List Oper) (r:F.T) (h:aq) (y:Y),
 oI E F n ((qa E F n ops l).run fc r h y) (iu E call ops l ⟨dJ F n r,h,y.ds,y.rc⟩)
 | [],r,h,y=>rfl
 | o::rest,r,h,y=>by
   have ih:=v_ hn hle ops rest
   show oI E F n ((H_ E F n ops o (qa E F n ops rest)).run fc r h y) _
   unfold H_
   obtain ⟨s,h1,hs⟩:=Eo F n hn o.dst (fun s=>Eb F n ops o (C7 (qz E F n o.op) s (qa E F n ops rest)) (MX s (qa E F n ops rest)))
   rw[h1,IC hn]
   rw[iu]
   cases hw:b_ ops (dJ F n r) o with
   | true=>
     rw[if_pos rfl]
     exact Lt hle (BF o.op) hs ih r h y
   | false=>
     rw[if_neg (by simp)]
     show oI E F n ((qa E F n ops rest).run fc (s AV.undef r) h y) _
     simp only[hs]
     exact ih _ _ _
def madeOf:TK→Option Nat
 | .oW n _=>some n
 | _=>none
theorem rZ (x:Step) (t:List Step):nE (x::t)=match madeOf x.kind with | none=>nE t | some i=>i::nE t:=by
 show List.filterMap (fun x:Step=>madeOf x.kind) (x::t)=_
 rw[List.filterMap_cons];cases madeOf x.kind<;>rfl
inductive mC (E:Env) (ops:Array Oper) (pl:jZ):List FC→List Step→Prop
 | nil:mC E ops pl [] []
 | skip {x:Step} {c:List FC} {t:List Step} (hs:∀h,g8 E ops x h=true) (hm:madeOf x.kind=none) (ht:mC E ops pl c t):mC E ops pl c (x::t)
 | Lu {x:Step} {c0:FC} {c:List FC} {t:List Step} (hk:c0.k=x.k) (hl:c0.m=iv pl.bA pl.an x.i+1 - x.k) (hm:madeOf x.kind=c0.made)
  (hs:∀h,c0.f h=true→g8 E ops x h=true) (ht:mC E ops pl c t):mC E ops pl (c0::c) (x::t)
theorem mC.made {ops:Array Oper} {pl:jZ} {c:List FC} {t:List Step} (h:mC E ops pl c t):Ef c=nE t:=by
 induction h with
 | nil=>rfl
 | skip hs hm ht ih=>rw[rZ,hm];exact ih
 | Lu hk hl hm hs ht ih=>
   rename_i x c0 c t
   show ob (Ef c) (fun i=>i::Ef c) c0.made=_
   rw[rZ,hm,ih]
   cases c0.made<;>rfl
theorem mC.all {ops:Array Oper} {pl:jZ} {hs:List aq} {c:List FC} {t:List Step} (h:mC E ops pl c t) (e:c.all (fun x=>tw x.f (po (pn hs x.k) x.m))=true):
 t.all (fun x=>((hs.drop x.k).take (iv pl.bA pl.an x.i+1 - x.k)).all (g8 E ops x))=true:=by
 induction h with
 | nil=>rfl
 | skip nL hm ht ih=>
   rw[List.all_cons,ih e,Bool.and_true,List.all_eq_true]
   intro h _;exact nL h
 | Lu hk hl hm nL ht ih=>
   rw[List.all_cons,Bool.and_eq_true] at e
   rw[List.all_cons,ih e.2,Bool.and_true,List.all_eq_true]
   have e1:=e.1
   rw[nX,nm,nk,List.all_eq_true,hk,hl] at e1
   intro h hh;exact nL h (e1 h hh)
theorem wa {ops:Array Oper} {pl:jZ} {hs:List aq} {c:List FC} {t:List Step} (h:mC E ops pl c t) (e:nZ c hs=true):nG E ops pl t hs=true:=by
 unfold nZ at e
 rw[l7,Bool.and_eq_true,tA,nX,h.made] at e
 unfold nG
 rw[Bool.and_eq_true]
 exact ⟨e.1,h.all e.2⟩
def xy (E:Env) (F:RF) (n:Nat) (ops:Array Oper) (pl:jZ) (d:DO F.T) (t:hU):Prop:=match d with
 | .ok tr hs r h y=>∃Cw,t= .ok Cw hs ⟨dJ F n r,h,y.ds,y.rc⟩∧mC E ops pl tr Cw
 | .bad=>True
theorem xy.skip {ops:Array Oper} {pl:jZ} {d:DO F.T} {t:hU} (h:xy E F n ops pl d t) {x:Step} (hs:∀h,g8 E ops x h=true) (hm:madeOf x.kind=none):xy E F n ops pl d (t.step x):=by
 cases d with
 | bad=>trivial
 | ok tr nL r h' y=>
   obtain ⟨Cw,rfl,h2⟩:=h
   exact ⟨x::Cw,rfl,.skip hs hm h2⟩
theorem xy.bound {ops:Array Oper} {pl:jZ} {d:DO F.T} {t:hU} (h:xy E F n ops pl d t) (h0:aq):xy E F n ops pl (nY h0 d) (t.bound h0):=by
 cases d with
 | bad=>trivial
 | ok tr nL r h' y=>
   obtain ⟨Cw,rfl,h2⟩:=h
   exact ⟨Cw,rfl,h2⟩
theorem xy.Lu {ops:Array Oper} {pl:jZ} {d:DO F.T} {t:hU} (h:xy E F n ops pl d t) {x:Step} {c:FC} (hk:c.k=x.k) (hl:c.m=iv pl.bA pl.an x.i+1 - x.k)
 (hm:madeOf x.kind=c.made) (hs:∀h,c.f h=true→g8 E ops x h=true):xy E F n ops pl (yE c d) (t.step x):=by
 cases d with
 | bad=>trivial
 | ok tr nL r h' y=>
   obtain ⟨Cw,rfl,h2⟩:=h
   exact ⟨x::Cw,rfl,.Lu hk hl hm hs h2⟩
theorem BH:∀(m:Nat) (x y:AV),vV m x y=true→AV.same m x y=true
 | 0,_,_,e=>by cases e
 | m+1,x,y,e=>by
   have ih:=BH m
   have all:∀(a b:List AV),leq (vV m) a b=true→bG (AV.same m) a b=true:=by
    intro a
    induction a with
    | nil=>intro b;cases b<;>intro e<;>first | rfl | cases e
    | cons x tl YK=>
      intro b
      cases b with
      | nil=>intro e;cases e
      | cons y tm=>
        intro e
        have e:bc (vV m x y) (leq (vV m) tl tm) false=true:=e
        rw[l7,Bool.and_eq_true] at e
        rw[bG,Bool.and_eq_true]
        exact ⟨ih _ _ e.1,YK _ e.2⟩
   cases x with
   | int k a=>cases y with
     | int j b=>
       have e:bc (HR k j) (MS a b) false=true:=e
       rw[l7,Bool.and_eq_true,C_] at e
       rw[AV.same,Ej e.1,e.2];simp
     | _=>cases e
   | str a=>cases y with
     | str b=>
       have e:leq vP a b=true:=e
       rw[Da] at e
       rw[AV.same];exact e
     | _=>cases e
   | ptr i o=>cases y with
     | ptr j p=>
       have e:bc (Nat.beq i j) (Nat.beq o p) false=true:=e
       rw[l7,Bool.and_eq_true] at e
       rw[AV.same,kV e.1,kV e.2];simp
     | _=>cases e
   | bool a=>cases y with
     | bool b=>
       have e:bc a b (qV b)=true:=e
       rw[AV.same]
       cases a<;>cases b<;>first | rfl | cases e
     | _=>cases e
   | agg a=>cases y with
     | agg b=>rw[AV.same];exact all a b e
     | _=>cases e
   | _=>exact e
theorem wc (hn:n≤F.N) {fc call:aY} (hle:iC fc call) (ops:Array Oper) (pl:jZ):∀(l:List Nat) (k:Nat) (r:F.T) (h:aq) (y:Y),
 xy E F n ops pl ((gV E F n ops pl l k).run fc r h y) (ct E call ops l k ⟨dJ F n r,h,y.ds,y.rc⟩)
 | [],k,r,h,y=>⟨[],rfl,.nil⟩
 | i::rest,k,r,h,y=>by
   have ih:=wc hn hle ops pl rest
   rw[ct]
   show xy E F n ops pl (D.run (ob ⟨fun _ _ _ _=> .bad⟩ (fun o=>wS F n o.dst fun s=>
    bc (ni E o.op) (canon (k+1) fun k'=>uf F n ops o (Ec (qz E F n o.op) s (gV E F n ops pl rest k')) (C9 s (gV E F n ops pl rest k')))
     (canon (vb pl.bA pl.an i+1 - k) fun m=>uf F n ops o (Ed k m (qz E F n o.op) s (gV E F n ops pl rest k)) (H' s (gV E F n ops pl rest k)))) (gK ops.toList i)) fc r h y) _
   rw[ft,Array.getElem?_toList]
   cases ho:ops[i]? with
   | none=>trivial
   | some o=>
     have eZ:(ops.getD i default).op=o.op:=by rw[Array.getD_eq_getD_getElem?,ho];rfl
     simp only[K9,jo,pt,C5]
     obtain ⟨s,h1,hs⟩:=Eo F n hn o.dst (fun s=>
      bc (eg E o.op) (uf F n ops o (Ec (qz E F n o.op) s (gV E F n ops pl rest (k+1))) (C9 s (gV E F n ops pl rest (k+1))))
      (uf F n ops o (Ed k (iv pl.bA pl.an i+1 - k) (qz E F n o.op) s (gV E F n ops pl rest k)) (H' s (gV E F n ops pl rest k))))
     rw[h1]
     have hk:=BF (E:=E) (F:=F) (n:=n) o.op
     generalize qz E F n o.op=kd at hk
     cases he:eg E o.op with
     | true=>
       rw[gW,BG hn,if_pos rfl]
       cases hw:b_ ops (dJ F n r) o with
       | false=>
         rw[if_neg (by simp)]
         show xy E F n ops pl (nY h ((gV E F n ops pl rest (k+1)).run fc (s AV.undef r) h y)) _
         simp only[hs]
         exact ((ih _ _ _ _).bound h).skip (fun _=>rfl) rfl
       | true=>
         rw[if_pos rfl]
         show xy E F n ops pl ((Ec kd s (gV E F n ops pl rest (k+1))).run fc r h y) _
         cases kd with
         | wr f=>
           show xy E F n ops pl (ob .bad (fun p=>nY h ((gV E F n ops pl rest (k+1)).run fc (s p.1 r) p.2 y)) (f r h)) _
           cases hf:f r h with
           | none=>trivial
           | some p=>
             simp only[hk.2 call r h y.rc o p rfl hf,hs]
             exact ((ih _ _ _ _).bound h).skip (fun _=>rfl) rfl
         | call g args=>
           show xy E F n ops pl (gQ.rec (motive:=fun _=>DO F.T) (fun v h'=>nY h ((gV E F n ops pl rest (k+1)).run fc (s v r) h' y)) (fun _ _=> .bad) (fun _ _=> .bad) (fc g (args r) h)) _
           cases hc:fc g (args r) h with
           | fail _ _=>trivial
           | panic _ _=>trivial
           | ret v h'=>
             simp only[hk.2 call r h y.rc o rfl,(hle _ _ _).1 v h' hc,kC,hs]
             exact ((ih _ _ _ _).bound h).skip (fun _=>rfl) rfl
         | qi f=>
           show xy E F n ops pl (sX.rec (motive:=fun _=>DO F.T) (fun v h'=>nY h ((gV E F n ops pl rest (k+1)).run fc (s v r) h' y)) (fun _=> .bad) (fun _=> .bad) (fun _ _=> .bad) (fun _ _=> .bad) (f fc r h y.rc)) _
           have h2:=hk.2 fc call hle r h y.rc o rfl
           cases hf:f fc r h y.rc with
           | val v h'=>
             rw[hf] at h2
             have h2:cD E call (dJ F n r) h y.rc o= .val v h':=h2
             simp only[h2,hs]
             exact ((ih _ _ _ _).bound h).skip (fun _=>rfl) rfl
           | _=>trivial
         | _=>trivial
     | false=>
       rw[c_,BG hn,if_neg (by simp)]
       cases hw:b_ ops (dJ F n r) o with
       | false=>
         rw[if_neg (by simp)]
         show xy E F n ops pl ((gV E F n ops pl rest k).run fc (s AV.undef r) h y) _
         simp only[hs]
         exact (ih _ _ _ _).skip (fun _=>rfl) rfl
       | true=>
         rw[if_pos rfl]
         show xy E F n ops pl ((Ed k (iv pl.bA pl.an i+1 - k) kd s (gV E F n ops pl rest k)).run fc r h y) _
         cases kd with
         | AH g=>
           simp only[hk r,hs]
           exact (ih _ _ _ _).skip (fun _=>rfl) rfl
         | fi f=>
           show xy E F n ops pl (ob .bad (fun v=>(gV E F n ops pl rest k).run fc (s v r) h y) (f r)) _
           cases hf:f r with
           | none=>trivial
           | some v=>
             simp only[hk r v hf,hs]
             exact (ih _ _ _ _).skip (fun _=>rfl) rfl
         | red f=>
           show xy E F n ops pl (ob .bad (fun v=>yE ⟨k,_,none,fun h'=>ob false (fun v'=>vV 20 v' v) (f r h')⟩ ((gV E F n ops pl rest k).run fc (s v r) h y)) (f r h)) _
           cases hf:f r h with
           | none=>trivial
           | some v=>
             rcases hk r h v hf with q0 | ⟨q0,q1⟩
             · simp only[q0,hs]
               exact (ih _ _ _ _).Lu rfl rfl rfl fun h' _=>rfl
             simp only[q0,q1,hs]
             refine (ih _ _ _ _).Lu rfl rfl rfl fun h' e=>?_
             have e:ob false (fun v'=>vV 20 v' v) (f r h')=true:=e
             cases OW:f r h' with
             | none=>rw[OW] at e;cases e
             | some v'=>
               rw[OW] at e
               rcases hk r h' v' OW with q2 | ⟨_,q3⟩
               · rw[q0] at q2;cases q2
               simp only[g8,eZ,q3]
               exact BH 20 v' v e
         | oW f=>
           obtain ⟨h3,h4,h5⟩:=hk
           show xy E F n ops pl (ob .bad (fun p=>ob .bad (fun h'=>yE ⟨k,_,some h.nx,fun Ee=>ob false (fun o=>aP.same o p.1) (Ee.get h.nx)⟩ ((gV E F n ops pl rest k).run fc (s (p.2 h.nx) r) h' y)) (h.new p.1)) (f r)) _
           cases hf:f r with
           | none=>trivial
           | some p=>
             obtain ⟨obj,mk⟩:=p
             show xy E F n ops pl (ob .bad (fun h'=>yE ⟨k,_,some h.nx,fun Ee=>ob false (fun o=>aP.same o obj) (Ee.get h.nx)⟩ ((gV E F n ops pl rest k).run fc (s (mk h.nx) r) h' y)) (h.new obj)) _
             cases hh:h.new obj with
             | none=>trivial
             | some h'=>
               simp only[h3,h4,h5 r _ hf,hh,hs]
               refine (ih _ _ _ _).Lu rfl rfl rfl fun Ee e=>?_
               have e:ob false (fun o=>aP.same o obj) (Ee.get h.nx)=true:=e
               cases OW:Ee.get h.nx with
               | none=>rw[OW] at e;cases e
               | some o'=>
                 rw[OW] at e
                 simp only[g8,OW]
                 exact e
         | _=>trivial
theorem ID {fc call:aY} (hle:iC fc call) {ts:List AV} {h h':aq} {rc:RC} {dst:Option Tmp} {c:Call} {ty:TypeId} {pos:String} {after:Array Edge} {guard:Option (Nat×Bool)} {v:AV} (e:cD E fc ts h rc ⟨dst,.call c,ty,pos,after,guard⟩= .panic v h'):
 cD E call ts h rc ⟨dst,.call c,ty,pos,after,guard⟩= .panic v h':=by
 obtain ⟨dH,args,aT⟩:=c
 cases dH with
 | builtin b=>
   cases b<;>simp only[cD] at e<;>(try (simp at e;done))<;>(split at e<;>(try (simp at e;done))<;>(try (split at e<;>simp at e)))
 | value f=>
   simp only[cD] at e ⊢
   split at e
   · split at e
     · split at e<;>simp at e
     · split at e
       · simp at e
       · rename_i hc
         simp at e;obtain ⟨rfl,rfl⟩:=e
         simp only[(hle _ _ _).2 _ _ hc]
       · simp at e
   · simp at e
 | invoke x name=>
   simp only[cD] at e ⊢
   split at e
   · split at e
     · split at e
       · simp at e
       · rename_i hc
         simp at e;obtain ⟨rfl,rfl⟩:=e
         simp only[(hle _ _ _).2 _ _ hc]
       · simp at e
     · simp at e
   · simp at e
theorem mC.snoc {ops:Array Oper} {pl:jZ} {c:List FC} {t:List Step} (h:mC E ops pl c t) {x:Step} (hs:∀h,g8 E ops x h=true) (hm:madeOf x.kind=none):mC E ops pl c (t++[x]):=by
 induction h with
 | nil=>exact .skip hs hm .nil
 | skip a b _ ih=>exact .skip a b ih
 | Lu a b d e _ ih=>exact .Lu a b d e ih
theorem Lv (hn:n≤F.N) {fc call:aY} (hle:iC fc call) (ops:Array Oper) (pl:jZ) (r:F.T) (h:aq) (y:Y):
 oI E F n (K7 E F n ops pl fc r h y) (match ct E call ops pl.order 0 ⟨dJ F n r,h,y.ds,y.rc⟩ with
  | .ok tr hs s'=>if nG E ops pl tr hs then .ok .normal s' else .fail "still" (ops[0]?)
  | .fail why o=>match vg E call ops ⟨dJ F n r,h,y.ds,y.rc⟩ pl with
    | some (v,s2)=> .ok (.panic v) s2
    | none=> .fail why o):=by
 unfold K7
 split
 · trivial
 rename_i i front KM
 split
 · rename_i tr hs r1 h1 y1 dst c ty pos after guard hd ho
   split
   · rename_i v h' Cs HB
     split
     · rename_i hl
       have hk:=wc (E:=E) hn hle ops pl front.reverse 0 r h y
       rw[hd] at hk
       obtain ⟨Cw,e1,e2⟩:=hk
       have Hx:pl.order=front.reverse++[i]:=by
        have:=congrArg List.reverse KM
        simpa using this
       have Rz:=ID hle HB
       have Ff:=Cs
       simp only[Bool.and_eq_true] at Ff
       obtain ⟨why,q,e3⟩:=tk ho Ff.1.1 front.reverse 0 _ e1 Ff.1.2 Rz
       rw[Hx,e3]
       have HC:vg E call ops ⟨dJ F n r,h,y.ds,y.rc⟩ pl=some (v,⟨dJ F n r1,h',y1.ds,y1.rc⟩):=by
        unfold vg
        rw[KM]
        simp only[e1,ho,Cs,if_true,Rz]
        rw[if_pos (wa (e2.snoc (fun _=>rfl) rfl) hl)]
       simp only[HC]
       exact ⟨by simp,rfl⟩
     · trivial
   · trivial
 · trivial
theorem IE (hn:n≤F.N) {fc call:aY} (hle:iC fc call) (ops:Array Oper) (r:F.T) (h:aq) (y:Y):
 oI E F n ((Eg E F n ops).run fc r h y) (rA E call ops ⟨dJ F n r,h,y.ds,y.rc⟩):=by
 unfold Eg rA
 rw[H4]
 cases oV E ops with
 | none=>trivial
 | some pl=>
   show oI E F n (DO.rec (motive:=fun _=>FO F.T) (fun tr hs r' h' y'=>bc (nZ tr hs) (.Bq r' h' y') .bad) (K7 E F n ops pl fc r h y) ((gV E F n ops pl pl.order 0).run fc r h y)) _
   have:=wc (E:=E) hn hle ops pl pl.order 0 r h y
   cases hd:(gV E F n ops pl pl.order 0).run fc r h y with
   | bad=>exact Lv hn hle ops pl r h y
   | ok tr hs r' h' y'=>
     rw[hd] at this
     obtain ⟨Cw,h1,h2⟩:=this
     show oI E F n (bc (nZ tr hs) (.Bq r' h' y') .bad) _
     cases hl:nZ tr hs with
     | false=>trivial
     | true=>
       simp only[h1]
       rw[if_pos (wa h2 hl)]
       rfl
end Go.Ab.Fa
end
section
namespace Go.Ab.Fa
variable {E:Env} {F:RF} {n:Nat}
theorem BI {fc call:aY} (hle:iC fc call) {f:Operand} {ps:Array Tmp} {as bd:Code} {s:St} {e:iS} {s':St} (h:kQ E fc f ps as bd s= .ok e s'):kQ E call f ps as bd s= .ok e s':=by
 unfold kQ at h ⊢
 split at h
 case h_2=>cases h
 rename_i g first captured hv
 split at h
 case h_2=>cases h
 rename_i dn h1 N1 ho
 split at h
 case h_2=>cases h
 rename_i h2 hn
 cases hc:fc (.fn g) (first++[.oQ h1.nx]++captured) h2 with
 | ret v h3=>rw[hc] at h;rw[(hle _ _ _).1 _ _ hc];exact h
 | panic v h3=>rw[hc] at h;rw[(hle _ _ _).2 _ _ hc];exact h
 | fail why q=>rw[hc] at h;cases h
theorem FN {call:aY} {f:Operand} {ps:Array Tmp} {as bd:Code} {s:St} {e:iS} {s':St} (h:kQ E call f ps as bd s= .ok e s'):s'.ts=s.ts:=by
 unfold kQ at h
 split at h
 case h_2=>cases h
 split at h
 case h_2=>cases h
 split at h
 case h_2=>cases h
 split at h
 · split at h
   · cases h
   · split at h
     · simp only[Out.ok.injEq] at h;rw[←h.2]
     · cases h
   · cases h
 · simp only[Out.ok.injEq] at h;rw[←h.2]
 · cases h
theorem IF {o:FO F.T} {out:Out} (h:oI E F n o out) {k:F.T→aq→Y→FO F.T} {g:St→Out} (hk:∀r h y,oI E F n (k r h y) (g ⟨dJ F n r,h,y.ds,y.rc⟩)):
 oI E F n (fo k .jmp .bad o) (match (generalizing:=false) out with | .ok .normal s'=>g s' | r=>r):=by
 cases o with
 | Bq r h' y=>rw[show out=_ from h];exact hk r h' y
 | jmp e r h' y=>
   obtain ⟨h1,h2⟩:=h
   rw[h2]
   cases e with
   | normal=>exact absurd rfl h1
   | _=>exact ⟨by simp,rfl⟩
 | bad=>trivial
theorem jx (hn:n≤F.N) {fc call:aY} (hle:iC fc call):∀(c:Code) (m:Nat) (r:F.T) (h:aq) (y:Y),
 oI E F n ((kD E F n c).run m fc r h y) (exec E call m c ⟨dJ F n r,h,y.ds,y.rc⟩)
 | .skip,m,r,h,y=>by cases m with
   | zero=>trivial
   | succ m=>exact rfl
 | .label _,m,r,h,y=>by cases m with
   | zero=>trivial
   | succ m=>exact rfl
 | .ret,m,r,h,y=>by cases m with
   | zero=>trivial
   | succ m=>exact ⟨by simp,rfl⟩
 | .exit id,m,r,h,y=>by cases m with
   | zero=>trivial
   | succ m=>exact ⟨by simp,rfl⟩
 | .region _ ops draw,m,r,h,y=>by
   cases m with
   | zero=>cases draw<;>trivial
   | succ m=>cases draw with
     | true=>exact IE hn hle ops r h y
     | false=>exact v_ hn hle ops ops.toList r h y
 | .seq a b,m,r,h,y=>by cases m with
   | zero=>trivial
   | succ m=>
     have h1:=jx hn hle a m r h y
     have h2:=jx hn hle b m
     exact IF h1 (g:=fun s'=>exec E call m b s') h2
 | .cond x a b,m,r,h,y=>by
   have ha:=jx hn hle a
   have hb:=jx hn hle b
   show oI E F n (C.run (wO E F n x (fun g=>⟨fun m call r h y=>nS .bad (fun i=>g_ (fun t=>bc t ((kD E F n a).run i call r h y) ((kD E F n b).run i call r h y)) .bad (g r)) m⟩) ⟨fun _ _ _ _ _=> .bad⟩) m fc r h y) _
   rcases bH E F n x (fun g=>(⟨fun m call r h y=>nS .bad (fun i=>g_ (fun t=>bc t ((kD E F n a).run i call r h y) ((kD E F n b).run i call r h y)) .bad (g r)) m⟩:C F.T)) ⟨fun _ _ _ _ _=> .bad⟩ with hw | ⟨g,hw,hg⟩<;>rw[hw]
   · trivial
   cases m with
   | zero=>trivial
   | succ m=>
     show oI E F n (g_ (fun t=>bc t ((kD E F n a).run m fc r h y) ((kD E F n b).run m fc r h y)) .bad (g r)) _
     rw[exec]
     simp only[hg]
     cases g r with
     | bool t=>cases t with
       | true=>exact ha m r h y
       | false=>exact hb m r h y
     | _=>trivial
 | .block id b,m,r,h,y=>by cases m with
   | zero=>trivial
   | succ m=>
     have hb:=jx hn hle b m r h y
     show oI E F n (fo .Bq (fun e r' h' y'=>Ib (fun j=>bc (Nat.beq j id) (.Bq r' h' y') (.jmp e r' h' y')) (.jmp e r' h' y') e) .bad ((kD E F n b).run m fc r h y)) _
     rw[exec]
     cases hr:(kD E F n b).run m fc r h y with
     | bad=>trivial
     | Bq r' h' y'=>
       rw[hr] at hb
       have hb:exec E call m b _= .ok .normal ⟨dJ F n r',h',y'.ds,y'.rc⟩:=hb
       rw[hb];exact rfl
     | jmp e r' h' y'=>
       rw[hr] at hb
       obtain ⟨h1,h2⟩:=hb
       rw[h2]
       cases e with
       | normal=>exact absurd rfl h1
       | exit j=>
         show oI E F n (bc (Nat.beq j id) (.Bq r' h' y') (.jmp (.exit j) r' h' y')) (if j=id then _ else _)
         cases hj:Nat.beq j id with
         | true=>rw[if_pos (kV hj)];exact rfl
         | false=>rw[if_neg (by intro e;rw[e,Nat.beq_refl] at hj;cases hj)];exact ⟨by simp,rfl⟩
       | ret=>exact ⟨by simp,rfl⟩
       | panic v=>exact ⟨by simp,rfl⟩
 | .loop b,m,r,h,y=>by
   have hb:=jx hn hle b
   show oI E F n (Ic (kD E F n b) m fc r h y) _
   induction m generalizing r h y with
   | zero=>trivial
   | succ m ih=>
     show oI E F n (fo (fun r' h' y'=>Ic (kD E F n b) m fc r' h' y') .jmp .bad ((kD E F n b).run m fc r h y)) _
     exact IF (hb m r h y) (g:=fun s'=>exec E call m (.loop b) s') ih
 | .rangeFunc f ps as bd,m,r,h,y=>by
   show oI E F n ((K8 (zX E F n f ps as bd)).run m fc r h y) _
   cases m with
   | zero=>trivial
   | succ m=>
     show oI E F n ((zX E F n f ps as bd).run fc r h y) (kQ E call f ps as bd ⟨dJ F n r,h,y.ds,y.rc⟩)
     unfold zX
     rcases bH E F n f (fun _=>(⟨fun call r h y=>MY r (kQ E call f ps as bd ⟨dJ F n r,h,y.ds,y.rc⟩)⟩:I F.T)) ⟨fun _ _ _ _=> .bad⟩ with hw | ⟨g,hw,_⟩<;>rw[hw]
     · trivial
     simp only
     cases hr:kQ E fc f ps as bd ⟨dJ F n r,h,y.ds,y.rc⟩ with
     | fail _ _=>trivial
     | ok e s=>
       rw[BI hle hr]
       have ht:=FN hr
       obtain ⟨ts,hh,ds,rc⟩:=s
       simp only at ht
       subst ht
       cases e with
       | normal=>exact rfl
       | _=>exact ⟨by simp,rfl⟩
 | .scope b,m,r,h,y=>by cases m with
   | zero=>trivial
   | succ m=>exact jx hn hle b m r h y
 | .goto _,m,r,h,y=>trivial
 | .refuse _,m,r,h,y=>trivial
theorem r6:∀(l:List ResultVar) (r:F.T) (h:aq) (vs:List AV),(tC E F n l).f r h=some vs→iw E h (dJ F n r) l=some vs
 | [],r,h,vs,e=>e
 | .tmp t::rest,r,h,vs,e=>by
   rw[tC] at e
   obtain ⟨g,h1,h2⟩:=z4 F n t (fun g=>wW (tC E F n rest) fun k=>(⟨fun r h=>ob none (fun vs=>some (g r::vs)) (k r h)⟩:W (F.T→aq→Option (List AV))))
   rw[h1] at e
   obtain ⟨nM,h3,h4⟩:=fb (show ob none (fun vs=>some (g r::vs)) ((tC E F n rest).f r h)=some vs from e)
   rw[iw]
   simp only[h2,r6 rest r h nM h3]
   exact h4
 | .cell a t::rest,r,h,vs,e=>by
   rw[tC] at e
   obtain ⟨g,h1,h2⟩:=z4 F n a (fun g=>wW (tC E F n rest) fun k=>(⟨fun r h=>ob none (fun v=>ob none (fun vs=>some (v::vs)) (k r h)) (b9 E h t (g r))⟩:W (F.T→aq→Option (List AV))))
   rw[h1] at e
   obtain ⟨v,h3,h4⟩:=fb (show ob none (fun v=>ob none (fun vs=>some (v::vs)) ((tC E F n rest).f r h)) (b9 E h t (g r))=some vs from e)
   obtain ⟨nM,h5,h6⟩:=fb h4
   rw[iw]
   simp only[h2,h3,r6 rest r h nM h5]
   exact h6
def Vg (E:Env) (rs:List ResultVar) (b:BO) (out:Out):Prop:=match b with
 | .fin res h y=>∃e ts,(e= .normal∨e= .ret)∧out= .ok e ⟨ts,h,y.ds,y.rc⟩∧∀h' vs,res h'=some vs→iw E h' ts rs=some vs
 | .Ru v res h y=>∃ts,out= .ok (.panic v) ⟨ts,h,y.ds,y.rc⟩∧∀h' vs,res h'=some vs→iw E h' ts rs=some vs
 | .bad=>True
theorem BJ {fc call:aY} (hle:iC fc call) (F:RF) (fn:Func) (hn:fn.ntmps≤F.N) (b:Code) (fuel:Nat) (args:List AV) (h:aq) (rc:RC):
 Vg E fn.results.toList ((Ie E F fn.ntmps fn b).run fuel fc args h rc) (lk E call fuel fn b args h rc):=by
 show Vg E _ (bc (Nat.ble (gJ args) fn.ntmps)
  (fo (fun r h' y=> .fin ((tC E F fn.ntmps fn.results.toList).f r) h' y) (fun e r h' y=>iS.rec (motive:=fun _=>BO) .bad (fun _=> .bad) (.fin ((tC E F fn.ntmps fn.results.toList).f r) h' y) (fun v=> .Ru v ((tC E F fn.ntmps fn.results.toList).f r) h' y) e) .bad
   ((kD E F fn.ntmps b).run fuel fc (GR F args F.z 0) h ⟨[],rc⟩)) .bad) _
 cases hl:Nat.ble (gJ args) fn.ntmps with
 | false=>trivial
 | true=>
   have hl:=ek hl
   rw[eA] at hl
   have:=jx (E:=E) hn hle b fuel (GR F args F.z 0) h ⟨[],rc⟩
   rw[D6 F fn.ntmps hn args hl] at this
   rw[gW]
   unfold lk
   cases hr:(kD E F fn.ntmps b).run fuel fc (GR F args F.z 0) h ⟨[],rc⟩ with
   | bad=>trivial
   | Bq r h' y=>
     rw[hr] at this
     exact ⟨.normal,_,.inl rfl,this,fun Ee vs e=>r6 _ r Ee vs e⟩
   | jmp e r h' y=>
     rw[hr] at this
     obtain ⟨h1,h2⟩:=this
     cases e with
     | normal=>exact absurd rfl h1
     | exit _=>trivial
     | ret=>exact ⟨.ret,_,.inr rfl,h2,fun Ee vs e=>r6 _ r Ee vs e⟩
     | panic v=>exact ⟨_,h2,fun Ee vs e=>r6 _ r Ee vs e⟩
theorem BK {fc call:aY} (hle:iC fc call) (f:FuncId) (fuel:Nat) (args:List AV) (h:aq) (rc:RC):
 (ug E f).run fuel fc args h rc= .bad∨∃fn b,E.P.funcs[f]? =some fn∧fn.body=some b∧Vg E fn.results.toList ((ug E f).run fuel fc args h rc) (lk E call fuel fn b args h rc):=by
 unfold ug
 rw[K0]
 cases hf:E.P.funcs[f]? with
 | none=>exact .inl rfl
 | some fn=>
   simp only
   cases hb:fn.body with
   | none=>exact .inl rfl
   | some b=>
     refine .inr ⟨fn,b,rfl,hb,?_⟩
     simp only
     cases h1:Nat.ble fn.ntmps 64 with
     | true=>exact BJ hle TM fn (ek h1) b fuel args h rc
     | false=>cases h2:Nat.ble fn.ntmps 512 with
       | true=>exact BJ hle TN fn (ek h2) b fuel args h rc
       | false=>trivial
theorem px {fc call:aY} (hle:iC fc call) {fuel:Nat} {c:Code} {s:St} {e:iS} {s':St} (h:Ei E fc fuel c s= .ok e s'):exec E call fuel c s= .ok e s':=by
 have key:∀F:RF,s.ts.length≤F.N→Eh E F fc fuel c s= .ok e s'→exec E call fuel c s= .ok e s':=by
  intro F hn hx
  have:=jx (E:=E) hn hle c fuel (GR F s.ts F.z 0) s.h ⟨s.ds,s.rc⟩
  rw[D6 F s.ts.length hn s.ts (Nat.le_refl _),Nat.sub_self,List.replicate_zero,List.append_nil] at this
  unfold Eh at hx
  cases hr:(kD E F s.ts.length c).run fuel fc (GR F s.ts F.z 0) s.h ⟨s.ds,s.rc⟩ with
  | bad=>rw[hr] at hx;cases hx
  | Bq r h' y=>rw[hr] at hx this;rw[show exec E call fuel c s=_ from this];exact hx
  | jmp e' r h' y=>rw[hr] at hx this;rw[show exec E call fuel c s=_ from this.2];exact hx
 unfold Ei at h
 cases h1:Nat.ble s.ts.length 64 with
 | true=>rw[h1] at h;exact key TM (ek h1) h
 | false=>cases h2:Nat.ble s.ts.length 512 with
   | true=>rw[h1,h2] at h;exact key TN (ek h2) h
   | false=>rw[h1,h2] at h;cases h
noncomputable def Ac (E:Env) (call:aY) (fuel:Nat) (g:FuncId) (as:List AV) (h:aq) (rc:RC):Option (aq×RC):=match E.P.funcs[g]? with
 | none=>none
 | some fg=>match fg.body with
   | none=>none
   | some bg=>match lk E call fuel fg bg as h rc with
     | .ok .normal s'=>if s'.ds.isEmpty&&(iw E s'.h s'.ts fg.results.toList).isSome then some (s'.h,s'.rc) else none
     | .ok .ret s'=>if s'.ds.isEmpty&&(iw E s'.h s'.ts fg.results.toList).isSome then some (s'.h,s'.rc) else none
     | _=>none
theorem IG {fc call:aY} (hle:iC fc call) {fuel:Nat} {g:FuncId} {as:List AV} {h:aq} {rc:RC} {p:aq×RC} (e:fM E fc fuel g as h rc=some p):Ac E call fuel g as h rc=some p:=by
 unfold fM at e
 rcases BK (E:=E) hle g fuel as h rc with h1 | ⟨fn,b,h1,h2,h3⟩
 · rw[h1] at e;cases e
 · unfold Ac
   rw[h1];simp only;rw[h2];simp only
   cases hr:(ug E g).run fuel fc as h rc with
   | bad=>rw[hr] at e;cases e
   | Ru v res h' y=>rw[hr] at e;cases e
   | fin res h' y=>
     rw[hr] at e h3
     obtain ⟨x,ts,h4,h5,h6⟩:=h3
     obtain ⟨h7,e1⟩:=eB (show bc y.ds.isEmpty (ob none (fun _=>some (h',y.rc)) (res h')) none=some p from e)
     obtain ⟨vs,h8,e2⟩:=fb e1
     rw[h5]
     rcases h4 with rfl | rfl
     · simp only[h7,h6 h' vs h8,Option.isSome_some,Bool.and_self,if_true];exact e2
     · simp only[h7,h6 h' vs h8,Option.isSome_some,Bool.and_self,if_true];exact e2
theorem jy {f g:FuncId→List AV→aq→RC→Option (aq×RC)} (Qg:∀k as h rc p,f k as h rc=some p→g k as h rc=some p):∀(ds:List nD) (p:Option AV) (h:aq) {q:Option AV×aq},cz f ds p h=some q→cz g ds p h=some q
 | [],p,h,q,e=>by cases p<;>exact e
 | .P3 r::ds,p,h,q,e=>by
   rw[cz] at e ⊢
   split at e
   · exact jy Qg ds p _ e
   · cases e
 | .call k as::ds,none,h,q,e=>by
   rw[cz] at e ⊢
   cases hf:f k as h .no with
   | none=>rw[hf] at e;cases e
   | some p=>rw[hf] at e;rw[Qg _ _ _ _ _ hf];obtain ⟨h',KP⟩:=p;exact jy Qg ds none h' e
 | .call k as::ds,some v,h,q,e=>by
   rw[cz] at e ⊢
   cases hf:f k as h (.gH v) with
   | none=>rw[hf] at e;cases e
   | some p=>
     rw[hf] at e;rw[Qg _ _ _ _ _ hf];obtain ⟨h',KP⟩:=p
     cases KP with
     | gH w=>exact jy Qg ds _ h' e
     | done=>exact jy Qg ds _ h' e
     | _=>cases e
theorem FP {fc call:aY} (hle:iC fc call) (fuel:Nat) (l:Nat) (args:List AV) (h:aq):(∀v h',vW E fc fuel l args h= .ret v h'→qH E call fuel l args h= .ret v h')∧∀v h',vW E fc fuel l args h= .panic v h'→qH E call fuel l args h= .panic v h':=by
 have key:∀out:gQ,(∀why o,out≠ .fail why o)→vW E fc fuel l args h=out→qH E call fuel l args h=out:=by
  intro out m6 e
  unfold vW at e
  unfold qH
  split at e
  case h_2=>exact absurd e.symm (m6 _ _)
  rename_i st pd ts ps as bd dn hg
  rw[hg]
  simp only
  by_cases ha:args.length=ps.length
  · rw[if_pos ha] at e ⊢
    split at e
    · rename_i s1 h1
      rw[px hle h1]
      simp only
      split at e
      · rename_i pd N2 Mw Kq N3 N4 YL
        rw[YL]
        simp only
        split at e
        · rename_i s2 h2;rw[px hle h2];exact e
        · rename_i s2 h2;rw[px hle h2];exact e
        · rename_i id s2 h2;rw[px hle h2];exact e
        · rename_i v s2 h2;rw[px hle h2];exact e
        · exact absurd e.symm (m6 _ _)
      · exact absurd e.symm (m6 _ _)
    · exact absurd e.symm (m6 _ _)
    · exact absurd e.symm (m6 _ _)
  · rw[if_neg ha] at e;exact absurd e.symm (m6 _ _)
 exact ⟨fun v h' e=>key _ (by simp) e,fun v h' e=>key _ (by simp) e⟩
noncomputable def IH (E:Env) (call:aY) (fuel:Nat) (fn:Func) (p:Option AV) (s:St):gQ:=match cz (Ac E call fuel) s.ds p s.h with
 | none=> .fail "unwind" none
 | some (some v,h')=> .panic v h'
 | some (none,h')=>match iw E h' s.ts fn.results.toList with
   | some vs=> .ret (fF vs) h'
   | none=> .fail "results" none
theorem De (d fuel:Nat) {f:FuncId} {fn:Func} {b:Code} (hf:E.P.funcs[f]? =some fn) (hb:fn.body=some b) (args:List AV) (h:aq):
 eX E (d+1) fuel (.fn f) args h=(match lk E (eX E d fuel) fuel fn b args h .no with
  | .ok .normal s=>IH E (eX E d fuel) fuel fn none s
  | .ok .ret s=>IH E (eX E d fuel) fuel fn none s
  | .ok (.panic v) s=>IH E (eX E d fuel) fuel fn (some v) s
  | .ok (.exit _) _=> .fail "exit" none
  | .fail why o=> .fail (why++ " in " ++fn.name) o):=by
 rw[eX]
 simp only[hf,hb]
 rfl
theorem Es {fc call:aY} (hle:iC fc call) {fuel:Nat} {fn:Func} {p:Option AV} {res:aq→Option (List AV)} {ts:List AV} {h:aq} {y:Y} (xL:∀h' vs,res h'=some vs→iw E h' ts fn.results.toList=some vs) {out:gQ} (ho:∀why o,out≠ .fail why o)
 (e:Bv (p.elim (ob (.fail "results" none) (fun vs=>gQ.ret (fF vs) h) (res h)) (fun v=> .panic v h)) (Bu E fc fuel p res h y.ds) y.ds=out):IH E call fuel fn p ⟨ts,h,y.ds,y.rc⟩=out:=by
 unfold IH
 cases hd:y.ds with
 | nil=>
   rw[hd] at e
   cases p with
   | some v=>exact e
   | none=>
     have e:ob (.fail "results" none) (fun vs=>gQ.ret (fF vs) h) (res h)=out:=e
     cases hr:res h with
     | none=>rw[hr] at e;exact absurd e.symm (ho _ _)
     | some vs=>
       rw[hr] at e
       simp only[cz,xL h vs hr]
       exact e
 | cons d ds=>
   rw[hd] at e
   have e:Bu E fc fuel p res h (d::ds)=out:=e
   unfold Bu at e
   cases hu:cz (fM E fc fuel) (d::ds) p h with
   | none=>rw[hu] at e;exact absurd e.symm (ho _ _)
   | some q=>
     rw[hu] at e
     have:=jy (g:=Ac E call fuel) (fun k as h rc p e=>IG hle e) (d::ds) p h hu
     simp only[this]
     obtain ⟨q1,h'⟩:=q
     cases q1 with
     | some v=>exact e
     | none=>
       have e:ob (.fail "results" none) (fun vs=>gQ.ret (fF vs) h') (res h')=out:=e
       cases hr:res h' with
       | none=>rw[hr] at e;exact absurd e.symm (ho _ _)
       | some vs=>rw[hr] at e;simp only[xL h' vs hr];exact e
theorem BL (fuel:Nat):∀d,iC (uh E d fuel) (eX E d fuel)
 | 0=>fun _ _ _=>⟨fun _ _ e=>(by cases e),fun _ _ e=>(by cases e)⟩
 | d+1=>by
   have ih:=BL fuel d
   intro g args h
   cases g with
   | tV l=>exact FP ih fuel l args h
   | fn f=>
     have key:∀out:gQ,(∀why o,out≠ .fail why o)→uh E (d+1) fuel (.fn f) args h=out→eX E (d+1) fuel (.fn f) args h=out:=by
      intro out ho e
      have e:bo (fun res h' y=>Bv (ob (.fail "results" none) (fun vs=>gQ.ret (fF vs) h') (res h')) (Bu E (uh E d fuel) fuel none res h' y.ds) y.ds)
       (fun v res h' y=>Bv (.panic v h') (Bu E (uh E d fuel) fuel (some v) res h' y.ds) y.ds) (.fail "body" none) ((ug E f).run fuel (uh E d fuel) args h .no)=out:=e
      rcases BK (E:=E) ih f fuel args h .no with h1 | ⟨fn,b,h1,h2,h3⟩
      · rw[h1] at e;exact absurd e.symm (ho _ _)
      · rw[De d fuel h1 h2]
        cases hr:(ug E f).run fuel (uh E d fuel) args h .no with
        | bad=>rw[hr] at e;exact absurd e.symm (ho _ _)
        | fin res h' y=>
          rw[hr] at e h3
          obtain ⟨x,ts,h4,h5,h6⟩:=h3
          have:=Es (E:=E) ih (fn:=fn) (p:=none) h6 ho e
          rw[h5]
          rcases h4 with rfl | rfl<;>exact this
        | Ru v res h' y=>
          rw[hr] at e h3
          obtain ⟨ts,h5,h6⟩:=h3
          have:=Es (E:=E) ih (fn:=fn) (p:=some v) h6 ho e
          rw[h5];exact this
     exact ⟨fun v h' e=>key _ (by simp) e,fun v h' e=>key _ (by simp) e⟩
theorem we {d fuel:Nat} {f:FuncId} {args:List AV} {h h':aq} {v:AV} (e:uh E d fuel (.fn f) args h= .ret v h'):eX E d fuel (.fn f) args h= .ret v h':=
 (BL fuel d _ _ _).1 v h' e
end Go.Ab.Fa
end
section
namespace Go.Ab
structure W0 (P:Program) (f:FuncId) (e:Array Value→Sem Value):Prop where
 Z0:∃fn,P.funcs[f]? =some fn∧(fn.name== "runtime.NumGoroutine")=false∧fn.body.isNone=true∧Extern.findNext fn=none∧Extern.find fn=some e
section
open Fa
noncomputable def l3 {R:Type} (f:AV→AV→AV→R) (d:R) (l:List AV):R:=
 List.rec (motive:=fun _=>R) d (fun a tl _=>List.rec (motive:=fun _=>R) d (fun b tl _=>List.rec (motive:=fun _=>R) d (fun c tl _=>List.rec (motive:=fun _=>R) (f a b c) (fun _ _ _=>d) tl) tl) tl) l
noncomputable def l2 {R:Type} (f:AV→AV→R) (d:R) (l:List AV):R:=
 List.rec (motive:=fun _=>R) d (fun a tl _=>List.rec (motive:=fun _=>R) d (fun b tl _=>List.rec (motive:=fun _=>R) (f a b) (fun _ _ _=>d) tl) tl) l
end
open Fa
end Go.Ab
end
section
namespace Go.Ab
open Go.Maps Go.WideElems Go.RowKit Go.Proofs
section
open Fa
noncomputable def l1 {R:Type} (f:AV→R) (d:R) (l:List AV):R:=List.rec (motive:=fun _=>R) d (fun a tl _=>List.rec (motive:=fun _=>R) (f a) (fun _ _ _=>d) tl) l
end
open Fa
theorem OK.later {E:Env} {φ:Ph} {h:aq} {w w':World} (ok:OK E φ h w) (b:Below w.heap.size w w'):OK E φ h w'∧Fr φ h w φ h w':=by
 have xD:∀j p m,h.get j=some p→φ j=some m→m.eV<w.heap.size:=fun j p m hj hm=>by
  have xu:=ok.live j p m hj hm
  rcases Nat.lt_or_ge m.eV w.heap.size with a | a
  · exact a
  · exfalso
    rw[Array.getElem?_eq_none a] at xu
    exact xu.absurd
 refine ⟨⟨ok.uJ,ok.nx,ok.qI,fun i o l h1 h2=>?_,ok.inj⟩,⟨Ph.le_refl φ,fun _ _=>rfl,Nat.le_refl _,b.os,b.tape,b.output,b.size,fun c hc _=>b.block c hc,fun i o l h1 h2 h3=> .inr ⟨i,o,l,h1,h2,h3,rfl⟩⟩⟩
 rw[b.block _ (xD i o l h1 h2)]
 exact ok.live i o l h1 h2
end Go.Ab
end
section
namespace Go.Ab
structure Lw where
 g:Nat
 k:IntKind
 ns:List Nat
 t:TypeId
def Lw.cells (x:Lw):List AV:=x.ns.map fun n=>AV.int x.k (Int.ofNat n)
noncomputable def jz (G:Nat):List Lw→aq
 | []=>⟨HT.nil,G,fun _=>none⟩
 | x::xs=>(jz G xs).put x.g (some (.cells x.cells x.t true))
theorem Lx (i:Nat) (G:Nat):(aq.mk HT.nil G fun _=>none).get i=none:=by
 by_cases hi:i<262144
 · rw[aq.qJ hi]
   rw[vm hi,s6,vl]
   simp only[HT.nil,uZ]
 · rw[aq.nH hi]
theorem tG (G:Nat):∀l,(jz G l).nx=G
 | []=>rfl
 | _::xs=>tG G xs
theorem n5 {G:Nat}:∀{l:List Lw} {i:Nat} {o:aP},(jz G l).get i=some o→∃x∈l,x.g=i∧o= .cells x.cells x.t true
 | [],i,o,e=>by rw[jz,Lx] at e;cases e
 | x::xs,i,o,e=>by
   rw[jz] at e
   by_cases h:x.g=i
   · subst h
     rw[aq.dw] at e
     exact ⟨x,by simp,rfl,(Option.some.inj e).symm⟩
   · rw[aq.ck h] at e
     obtain ⟨y,hy,h1,h2⟩:=n5 e
     exact ⟨y,by simp [hy],h1,h2⟩
def RB (w:World) (x:Lw):Prop:=∃C e fz,w.heap[x.g]? =some (.cells C e fz)∧C.toList=x.ns.map fun n=>Value.int x.k (Int.ofNat n)
def M3 (G:Nat):Ph:=fun i=>if i<G then some ⟨i,0,0⟩ else none
theorem OK.begin {E:Env} {w:World} {l:List Lw} (hl:∀x∈l,x.g<E.G∧RB w x):OK E (M3 E.G) (jz E.G l) w:=by
 refine ⟨fun i l' h=>?_,?_,fun g hg=>?_,fun i o l' h1 h2=>?_,fun i j o p l' m _ _ h3 h4 _ h5=>?_⟩
 · unfold M3 at h;rw[tG];split at h
   · assumption
   · cases h
 · rw[tG];exact Nat.le_refl _
 · unfold M3;rw[if_pos hg]
 · obtain ⟨x,hx,rfl,rfl⟩:=n5 h1
   obtain ⟨hg,C,e,⟨lo,hi⟩,hw,hC⟩:=hl x hx
   unfold M3 at h2;rw[if_pos hg] at h2
   obtain rfl:=Option.some.inj h2
   refine ⟨C,e,lo,hi,hw,?_,?_,(fun h=>by cases h),fun _ _ _=>rfl⟩
   · have:C.size=x.ns.length:=by rw[←Array.length_toList,hC,List.length_map]
     simp [Lw.cells,ei,this]
   · intro k y hk
     simp only[Lw.cells,List.getElem?_map,Option.map_eq_some_iff] at hk
     obtain ⟨n,hn,rfl⟩:=hk
     refine ⟨.int x.k (Int.ofNat n),?_,.int _ _⟩
     rw[Nat.zero_add,←Array.getElem?_toList,hC,List.getElem?_map,hn];rfl
 · unfold M3 at h3 h4
   split at h3
   · split at h4
     · obtain rfl:=Option.some.inj h3
       obtain rfl:=Option.some.inj h4
       exact h5
     · cases h4
   · cases h3
noncomputable def r7 (o:gQ):Bool:=gQ.rec (motive:=fun _=>Bool) (fun v _=>Fa.g_ (fun b=>b) false v) (fun _ _=>false) (fun _ _=>false) o
theorem uk {o:gQ} (h:r7 o=true):∃h',o= .ret (.bool true) h':=by
 cases o with
 | ret v h'=>
   cases v with
   | bool b=>exact ⟨h',by rw[show b=true from h]⟩
   | _=>cases h
 | panic v h'=>cases h
 | fail _ _=>cases h
end Go.Ab
end
section
namespace Go.Ab
variable {E:Env}
noncomputable def qd (E:Env) (call:aY) (fuel:Nat) (fn:Func) (p:Option AV) (s:St):gQ:=match cz (fM E call fuel) s.ds p s.h with
 | none=> .fail "unwind" none
 | some (some v,h')=> .panic v h'
 | some (none,h')=>match iw E h' s.ts fn.results.toList with
   | some vs=> .ret (fF vs) h'
   | none=> .fail "results" none
noncomputable def um (E:Env) (call:aY) (fuel:Nat) (f:FuncId) (args:List AV) (h:aq):gQ:=match E.P.funcs[f]? with
 | none=> .fail "no function" none
 | some fn=>match fn.body with
   | none=> .fail ("no body " ++fn.name) none
   | some b=>match lk E call fuel fn b args h .no with
     | .ok .normal s=>qd E call fuel fn none s
     | .ok .ret s=>qd E call fuel fn none s
     | .ok (.panic v) s=>qd E call fuel fn (some v) s
     | .ok (.exit _) _=> .fail "exit" none
     | .fail why o=> .fail (why++ " in " ++fn.name) o
theorem mD (hE:iJ E) (fuel:Nat) {call:aY} (ih:fP E call):(∀f args h v h',um E call fuel f args h= .ret v h'→ju E f args h v h')∧(∀f args h v h',um E call fuel f args h= .panic v h'→DZ E f args h v h'):=by
 have key:∀(f:FuncId) (args:List AV) (h:aq) (out:gQ),um E call fuel f args h=out→(∀why q,out≠ .fail why q)→
  ∃fn c e s p,E.P.funcs[f]? =some fn∧fn.body=some c∧lk E call fuel fn c args h .no= .ok e s∧
   ((p=none∧(e= .normal∨e= .ret))∨∃v,p=some v∧e= .panic v)∧
   ((∃v h',out= .panic v h'∧cz (fM E call fuel) s.ds p s.h=some (some v,h'))∨
    ∃vs h',out= .ret (fF vs) h'∧cz (fM E call fuel) s.ds p s.h=some (none,h')∧iw E h' s.ts fn.results.toList=some vs):=by
  intro f args h out e dt
  unfold um at e
  split at e
  · exact absurd e.symm (dt _ _)
  rename_i fn hf
  split at e
  · exact absurd e.symm (dt _ _)
  rename_i c hb
  have fin:∀(p:Option AV) (s:St),qd E call fuel fn p s=out→
   ((∃v h',out= .panic v h'∧cz (fM E call fuel) s.ds p s.h=some (some v,h'))∨
    ∃vs h',out= .ret (fF vs) h'∧cz (fM E call fuel) s.ds p s.h=some (none,h')∧iw E h' s.ts fn.results.toList=some vs):=by
   intro p s hm
   unfold qd at hm
   split at hm
   · exact absurd hm.symm (dt _ _)
   · rename_i v h' hu;exact .inl ⟨v,h',hm.symm,hu⟩
   · rename_i h' hu
     split at hm
     · rename_i vs hv;exact .inr ⟨vs,h',hm.symm,hu,hv⟩
     · exact absurd hm.symm (dt _ _)
  split at e
  · rename_i s eO;exact ⟨fn,c,_,s,none,hf,hb,eO,.inl ⟨rfl,.inl rfl⟩,fin none s e⟩
  · rename_i s eO;exact ⟨fn,c,_,s,none,hf,hb,eO,.inl ⟨rfl,.inr rfl⟩,fin none s e⟩
  · rename_i v s eO;exact ⟨fn,c,_,s,some v,hf,hb,eO,.inr ⟨v,rfl,rfl⟩,fin (some v) s e⟩
  · exact absurd e.symm (dt _ _)
  · exact absurd e.symm (dt _ _)
 have run:∀(f:FuncId) (fn:Func) (c:Code) (args:List AV) (h:aq) (e:iS) (s:St) (p p':Option AV) (h':aq),E.P.funcs[f]? =some fn→fn.body=some c→lk E call fuel fn c args h .no= .ok e s→
  ((p=none∧(e= .normal∨e= .ret))∨∃v,p=some v∧e= .panic v)→cz (fM E call fuel) s.ds p s.h=some (p',h')→
  ∀(φ:Ph) (w:World) (vs:List Value),OK E φ h w→LR φ args vs→∀cs,∃φ' w' m' tmps todo,OK E φ' h' w'∧Fr φ h w φ' h' w'∧LR φ' s.ts tmps.toList∧
   ((p'=none∧m'= .returning)∨∃v v',p'=some v∧VR φ' v v'∧m'= .panicking [{v:=v',recovered:=false}])∧
   Steps E.P (lone (Frame.enter E.P f vs.toArray .normal) cs w) (lone {(bare f .normal).atR {tmps,defers:=[]} todo with mode:=m'} cs w'):=by
  intro f fn c args h e s p p' h' hf hb eO hp hu φ w vs ok hl cs
  obtain ⟨φ1,w1,a1,e1,x1,x2,x3,x4,x5,x6⟩:=(pg hE ih hf hb eO ok hl (kind:= .normal) (K:=fun _=>cs) ⟨rfl,fun fr hk=>by simp [tryRecover,show fr.kind= .normal from hk]⟩).is
  have Be:cur (fun _=>cs) s.rc=cs:=by cases s.rc<;>rfl
  have HN:cur (fun _=>cs) RC.no=cs:=rfl
  rw[Be] at x6
  rw[HN] at x6
  have hm:∃todo m,((p=none∧m= .returning)∨∃v v',p=some v∧VR φ1 v v'∧m= .panicking [{v:=v',recovered:=false}])∧
   Steps E.P (lone (Frame.enter E.P f vs.toArray .normal) cs w) (lone {(bare f .normal).atR a1 todo with mode:=m} cs w1):=by
   rcases hp with ⟨rfl,rfl | rfl⟩ | ⟨v,rfl,rfl⟩
   · cases x1;exact ⟨[],.returning,.inl ⟨rfl,rfl⟩,Steps.trans x6 (.one (stepR_end rfl))⟩
   · cases x1;obtain ⟨todo,hs⟩:=x6;exact ⟨_,.returning,.inl ⟨rfl,rfl⟩,Steps.trans hs (.one (stepR_ret rfl))⟩
   · cases x1 with
     | panic _ v' hv=>obtain ⟨todo,hs⟩:=x6;exact ⟨todo,_,.inr ⟨v,v',rfl,hv,rfl⟩,hs⟩
  obtain ⟨todo,m,U',oN⟩:=hm
  obtain ⟨φ2,w2,m2,vJ,f2,HM,Va⟩:=hZ hE ih s.ds hu (fr:={(bare f .normal).atR a1 todo with mode:=m}) (cs:=cs) x3 x2.ds (by
   rcases U' with ⟨e,em⟩ | ⟨v,v',e,hv,em⟩
   · exact .inl ⟨e,em⟩
   · exact .inr ⟨v,v',e,hv,em⟩)
  exact ⟨φ2,w2,m2,a1.tmps,todo,vJ,x4.trans f2,x2.ts.mono f2.ext,HM,Steps.trans oN Va⟩
 refine ⟨fun f args h v h' e=>?_,fun f args h v h' e=>?_⟩
 · obtain ⟨fn,c,e1,s,p,hf,hb,eO,hp,m6⟩:=key f args h _ e (by simp)
   rcases m6 with ⟨v1,h1,he,_⟩ | ⟨Vb,h1,he,hu,xL⟩
   · simp at he
   · simp at he;obtain ⟨rfl,rfl⟩:=he
     intro φ w vs ok hl
     refine ⟨enters hE hf hb _ w,fun cs=>?_⟩
     obtain ⟨φ',w',m',tmps,todo,oO,fr,ht,hm,hs⟩:=run f fn c args h e1 s p none h' hf hb eO hp hu φ w vs ok hl cs
     obtain ⟨v',hv,fG⟩:=pf oO ht xL
     rcases hm with ⟨_,rfl⟩ | ⟨v,YD,e,_⟩
     · exact ⟨φ',w',v',_,hv,oO,fr,hs,rfl,rfl,rfl,rfl,fn,hf,fG⟩
     · simp at e
 · obtain ⟨fn,c,e1,s,p,hf,hb,eO,hp,m6⟩:=key f args h _ e (by simp)
   rcases m6 with ⟨v1,h1,he,hu⟩ | ⟨Vb,h1,he,_⟩
   · simp at he;obtain ⟨rfl,rfl⟩:=he
     intro φ w vs ok hl
     refine ⟨enters hE hf hb _ w,fun cs=>?_⟩
     obtain ⟨φ',w',m',tmps,todo,oO,fr,ht,hm,hs⟩:=run f fn c args h e1 s p (some v) h' hf hb eO hp hu φ w vs ok hl cs
     rcases hm with ⟨e,_⟩ | ⟨v2,v',e,hv,rfl⟩
     · simp at e
     · simp at e;subst e
       exact ⟨φ',w',v',_,hv,oO,fr,hs,rfl,rfl,rfl,fn,hf⟩
   · simp at he
namespace Fa
abbrev BM:=FuncId→List AV→aq→Option (AV×aq)
def Ad (E:Env) (M:BM):Prop:=∀f args h v h',M f args h=some (v,h')→ju E f args h v h'
noncomputable def BN (nx:Nat) (l:List (Nat×aP)):aq:=List.rec (motive:=fun _=>aq) ⟨HT.nil,nx,fun _=>none⟩ (fun x _ h=>h.put x.1 (some x.2)) l
theorem yH {nx:Nat}:∀{l:List (Nat×aP)} {i:Nat} {o:aP},(BN nx l).get i=some o→(i,o)∈l
 | [],i,o,e=>by
   have e:(aq.mk HT.nil nx fun _=>none).get i=some o:=e
   by_cases hi:i<262144
   · rw[aq.qJ hi] at e
     have e:(hp i).get HT.nil=some o:=e
     rw[vm hi,s6,vl] at e
     simp only[HT.nil,uZ] at e
     cases e
   · rw[aq.nH hi] at e;cases e
 | x::xs,i,o,e=>by
   have e:((BN nx xs).put x.1 (some x.2)).get i=some o:=e
   by_cases h:x.1=i
   · subst h
     rw[aq.dw] at e
     cases e;simp
   · rw[aq.ck h] at e
     exact List.mem_cons_of_mem _ (yH e)
structure Z1 where
 f:FuncId
 args:List AV
 nx:Nat
 K:List (Nat×aP)
 v:AV
 Z2:Nat
 K':List (Nat×aP)
end Fa
end Go.Ab
end
section
namespace Go.Ab
variable {E:Env}
theorem LR.r9 {φ φ':Ph} {xs:List AV} {ys zs:List Value} (h:LR φ xs ys) (h':LR φ' xs zs) (ih:∀(i:Nat) (x:AV) (y z:Value),xs[i]? =some x→ys[i]? =some y→zs[i]? =some z→VR φ x z):LR φ xs zs:=by
 refine ⟨h'.1,fun i x z hx hz=>?_⟩
 have hi:i<xs.length:=(List.getElem?_eq_some_iff.1 hx).1
 have:i<ys.length:=by rw[←h.1];exact hi
 exact ih i x ys[i] z hx (by simp [this]) hz
theorem VR.back {φ φ':Ph} (hle:φ.le φ') {x:AV} {y:Value} (h:VR φ x y):∀{z:Value},VR φ' x z→VR φ x z:=by
 induction h with
 | bool b=>intro z h;cases h;exact .bool b
 | int k n=>intro z h;cases h;exact .int k n
 | str s=>
   intro z h
   generalize he:AV.str s.data.toList=q at h
   cases h with
   | str s'=>exact .str s'
   | _=>cases he
 | eL=>intro z h;cases h;exact .eL
 | ptr o h=>intro z h';cases h' with | ptr _ h'=>rw[hle _ _ h] at h';cases h';exact .ptr o h
 | aF=>intro z h;cases h;exact .aF
 | slice o len cap op h=>intro z h';cases h' with | slice _ _ _ _ h'=>rw[hle _ _ h] at h';cases h';exact .slice o len cap op h
 | dG a cap=>intro z h;cases h;exact .dG _ _
 | cZ=>intro z h;cases h;exact .cZ
 | map h=>intro z h';cases h' with | map h'=>rw[hle _ _ h] at h';cases h';exact .map h
 | func f a b a' b' la lb ha hb Ug Uh=>
   intro z h
   obtain ⟨c,d,rfl,hc,hd⟩:=VR.vj h
   have h1:LR φ a c.toList:=LR.r9 (ys:=a'.toList) ⟨by simpa using la,fun i x y p q=>ha i x y p (by simpa using q)⟩ hc fun i x y z p q r=>Ug i x y p (by simpa using q) (hc.2 i x z p r)
   have h2:LR φ b d.toList:=LR.r9 (ys:=b'.toList) ⟨by simpa using lb,fun i x y p q=>hb i x y p (by simpa using q)⟩ hd fun i x y z p q r=>Uh i x y p (by simpa using q) (hd.2 i x z p r)
   have:=VR.G7 f h1 h2
   simpa using this
 | nilFunc=>intro z h;cases h;exact .nilFunc
 | yield h=>intro z h';cases h' with | yield h'=>rw[hle _ _ h] at h';cases h';exact .yield h
 | iface t v v' h ih=>intro z h';cases h' with | iface _ _ _ h'=>exact .iface t v _ (ih h')
 | nilIface=>intro z h;cases h;exact .nilIface
 | agg cs gG hl h ih=>
   intro z h'
   obtain ⟨d,rfl,hd⟩:=VR.hX h'
   have h1:LR φ cs d.toList:=LR.r9 (ys:=gG.toList) ⟨by simpa using hl,fun i x y p q=>h i x y p (by simpa using q)⟩ hd fun i x y z p q r=>ih i x y p (by simpa using q) (hd.2 i x z p r)
   have:=VR.E9 h1
   simpa using this
 | any v h=>intro z h';cases h' with | any _ h'=>exact .any _ h'
 | tuple cs gG hl h ih=>
   intro z h'
   obtain ⟨d,rfl,hd⟩:=VR.yf h'
   have h1:LR φ cs d.toList:=LR.r9 (ys:=gG.toList) ⟨by simpa using hl,fun i x y p q=>h i x y p (by simpa using q)⟩ hd fun i x y z p q r=>ih i x y p (by simpa using q) (hd.2 i x z p r)
   have:=VR.tuple' h1
   simpa using this
theorem LR.back {φ φ':Ph} (hle:φ.le φ') {xs:List AV} {ys zs:List Value} (h:LR φ xs ys) (h':LR φ' xs zs):LR φ xs zs:=
 LR.r9 h h' fun i x y z p q r=>(h.2 i x y p q).back hle (h'.2 i x z p r)
theorem OR.back {φ φ':Ph} (hle:φ.le φ') {o:aP} {l:Loc} {x z:Option Obj} (h:OR E φ o l x) (h':OR E φ' o l z):OR E φ o l z:=by
 cases o with
 | cells cs e ro=>
   obtain ⟨C,e1,lo,hi,_,hc⟩:=h
   obtain ⟨D,e2,CI,zq,hz,hd⟩:=h'
   refine ⟨D,e2,CI,zq,hz,hd.size,fun k x hk=>?_,hd.free,hd.zero⟩
   obtain ⟨y,_,hy⟩:=hc.val k x hk
   obtain ⟨y',h1,KF⟩:=hd.val k x hk
   exact ⟨y',h1,hy.back hle KF⟩
 | map es clock=>
   obtain ⟨_,YM,_,hl,hv⟩:=h
   obtain ⟨h0,YN,hz,MB,YO⟩:=h'
   refine ⟨h0,YN,hz,MB,fun i x y hx hy=>?_⟩
   have hi:i<es.length:=(List.getElem?_eq_some_iff.1 hx).1
   have:i<YM.toList.length:=by rw[←hl];exact hi
   have a:=hv i x _ hx (List.getElem?_eq_getElem this)
   have b:=YO i x y hx hy
   exact ⟨a.key.back hle b.key,a.val.back hle b.val,b.born⟩
 | qp s pos=>exact h'
 | vf m since seen nC=>
   cases m with
   | none=>exact h'
   | some m=>
     obtain ⟨_,lm,hm,_⟩:=h
     obtain ⟨h0,Z3,OV,hz⟩:=h'
     rw[hle _ _ hm] at OV;cases OV
     exact ⟨h0,lm,hm,hz⟩
 | loop st pd ts ps as bd dn=>
   obtain ⟨_,r,_,hr⟩:=h
   obtain ⟨h0,r',hz,Hg⟩:=h'
   obtain ⟨ld,hd,_⟩:=hr.defers
   obtain ⟨Z4,MK,Ct⟩:=Hg.defers
   rw[hle _ _ hd] at MK;cases MK
   exact ⟨h0,r',hz,Hg.state,Hg.pending,hr.tmps.back hle Hg.tmps,Hg.params,Hg.assign,Hg.body,⟨ld,hd,Ct⟩,Hg.fn⟩
 | E6=>exact h'
def Has (h h':aq):Prop:=∀i o,h.get i=some o→h'.get i=some o
theorem Has.refl (h:aq):Has h h:=fun _ _ e=>e
theorem Has.trans {a b c:aq} (x:Has a b) (y:Has b c):Has a c:=fun i o e=>y i o (x i o e)
theorem OK.forget {φ φ':Ph} {h h':aq} {w w':World} (ok:OK E φ h w) (hle:φ.le φ') (oO:OK E φ' h' w') (hs:Has h h'):OK E φ h w' where
 uJ:=ok.uJ
 nx:=ok.nx
 qI:=ok.qI
 live i o l a b:=(ok.live i o l a b).back hle (oO.live i o l (hs i o a) (hle _ _ b))
 inj:=ok.inj
theorem Fr.forget {φ φ':Ph} {h h':aq} {w w':World} (f:Fr φ h w φ' h' w'):Fr φ h w φ h w' where
 ext:=Ph.le_refl φ
 old _ _:=rfl
 nx:=Nat.le_refl _
 os:=f.os
 tape:=f.tape
 output:=f.output
 size:=f.size
 xC:=f.xC
 own i o l a b c:= .inr ⟨i,o,l,a,b,c,rfl⟩
def AV.plain:Nat→AV→Bool
 | 0,_=>false
 | n+1,x=>match x with
   | .bool _ | .int .. | .str _ | .eL | .aF | .cZ | .nilFunc | .nilIface=>true
   | .iface _ v=>AV.plain n v
   | .agg cs=>cs.all (AV.plain n)
   | .tuple cs=>cs.all (AV.plain n)
   | _=>false
theorem VR.plain {φ φ':Ph}:∀(n:Nat) {x:AV} (_:AV.plain n x=true) {y:Value},VR φ' x y→VR φ x y
 | 0,_,h,_,_=>by cases h
 | n+1,x,h,y,hv=>by
   have ih:= @VR.plain φ φ' n
   cases hv with
   | bool b=>exact .bool b
   | int k m=>exact .int k m
   | str s=>exact .str s
   | eL=>exact .eL
   | aF=>exact .aF
   | cZ=>exact .cZ
   | nilFunc=>exact .nilFunc
   | nilIface=>exact .nilIface
   | iface t v v' h'=>exact .iface t v v' (ih (by simpa [AV.plain] using h) h')
   | agg cs gG hl hc=>
     refine .agg cs gG hl fun i x y a b=>ih ?_ (hc i x y a b)
     simp only[AV.plain,List.all_eq_true] at h
     exact h x (List.mem_of_getElem? a)
   | tuple cs gG hl hc=>
     refine .tuple cs gG hl fun i x y a b=>ih ?_ (hc i x y a b)
     simp only[AV.plain,List.all_eq_true] at h
     exact h x (List.mem_of_getElem? a)
   | _=>cases h
theorem ju.closed {f:FuncId} {args:List AV} {h':aq} {v:AV} (r:ju E f args (Fa.BN E.G []) v h') (ha:args.all (AV.plain 20)=true) (hv:AV.plain 20 v=true) (h:aq):ju E f args h v h:=fun φ w vs ok hl=>by
 let φ0:Ph:=fun i=>if i<E.G then φ i else none
 have hle:φ0.le φ:=fun i l e=>by
  simp only[φ0] at e
  split at e
  · exact e
  · cases e
 have II:∀{i o},(Fa.BN E.G []).get i=some o→False:=fun e=>by cases Fa.yH e
 have YP:OK E φ0 (Fa.BN E.G []) w:=by
  refine ⟨fun i l e=>?_,Nat.le_refl _,fun g hg=>?_,fun i o l e=>(II e).elim,fun i j o p l m e=>(II e).elim⟩
  · simp only[φ0] at e
    split at e
    · assumption
    · cases e
  · simp only[φ0,hg,if_true];exact ok.qI g hg
 have N7:LR φ0 args vs:=⟨hl.1,fun i x y a b=>(hl.2 i x y a b).plain 20 (List.all_eq_true.1 ha x (List.mem_of_getElem? a))⟩
 obtain ⟨h1,h2⟩:=r φ0 w vs YP N7
 refine ⟨h1,fun cs=>?_⟩
 obtain ⟨φ',w',v',fr,x1,x2,x3,x4⟩:=h2 cs
 have M4:∀b,b<w.heap.size→w'.heap[b]? =w.heap[b]? :=fun b hb=>x3.xC b hb fun i o l e=>(II e).elim
 refine ⟨φ,w',v',fr,x1.plain 20 hv,⟨ok.uJ,ok.nx,ok.qI,fun i o l a b=>?_,ok.inj⟩,⟨Ph.le_refl φ,fun _ _=>rfl,Nat.le_refl _,x3.os,x3.tape,x3.output,x3.size,fun b hb _=>M4 b hb,fun i o l a b c=> .inr ⟨i,o,l,a,b,c,rfl⟩⟩,x4⟩
 have hr:=ok.live i o l a b
 by_cases hb:l.eV<w.heap.size
 · rw[M4 _ hb];exact hr
 · rw[Array.getElem?_eq_none (by omega)] at hr
   exact hr.absurd.elim
end Go.Ab
end
