import Derived.Laws.Externs
import Derived.Lib.Bytealg
import Derived.Maps.Own
import Derived.Maps.Range
import Derived.Sort.KeysCollected
import GoSem.ClaimChange
import Derived.OpenShut
import Derived.FnData
import Derived.ChangeArms
import Derived.Test.YtkffioplnoajdaaGreatA5
import Derived.Test.YtkffioplnoajdaaGreatA3
import Derived.Test.YtkffioplnoajdaaGreatA1
import Derived.Test.YtkffioplnoajdaaGreatA4
set_option linter.unusedVariables false
set_option linter.unusedSimpArgs false
section
namespace Go.Ab.Fa
variable {E:Env} {F:RF} {n:Nat}
theorem j0 {ts:List AV} {x:Operand} {a:AV} (h:fb E ts x=some a):gI E ts [x]=some [a]:=by simp [gI,eX,h]
theorem GO {ts:List AV} {x y:Operand} {a b:AV} (h:fb E ts x=some a) (h':fb E ts y=some b):gI E ts [x,y]=some [a,b]:=by simp [gI,eX,h,h']
theorem X4 (v:AV):aer v=rf v:=by
 cases v with
 | str s=>show some (jO s)=some s.length;rw[gD]
 | _=>rfl
theorem QN {h:au} {size m:Nat} {v:AV} {l:List AV} (e:Tx h size m v=some l):fA h size m v=some l:=by
 cases v with
 | aH=>
   obtain ⟨h1,e1⟩:=gF (show bc (Nat.beq m 0) (some []) none=some l from e)
   simp only[fA];rw[if_pos (oK h1)];exact e1
 | slice i o len c b=>
   obtain ⟨h1,e1⟩:=gF (show bc (Nat.ble m len) (ob none (fun obj=>Az (fun cs _ _=>bc (Nat.ble (o+m*size) (jO cs)) (some (uC (uA cs o) (m*size))) none) none obj) (h.get i)) none=some l from e)
   obtain ⟨obj,h2,e2⟩:=hD e1
   obtain ⟨cs,el,ro,rfl,e3⟩:=sl e2
   obtain ⟨h3,e4⟩:=gF e3
   have h1:=gd h1
   have h3:=gd h3
   rw[gD] at h3
   rw[rD,rC] at e4
   simp only[fA,h2]
   rw[if_pos h1]
   by_cases h0:m=0
   · subst h0
     rw[if_pos rfl]
     rw[Nat.zero_mul,List.take_zero] at e4
     exact e4
   · rw[if_neg h0,if_pos h3];exact e4
 | _=>exact e
theorem T0 {h:au} {obj:aM} {f:au→AV×au} {p:AV×au} (e:ob none (fun h'=>some (f h')) (h.new obj)=some p):∃h',h.new obj=some h'∧p=f h':=by
 obtain ⟨h',h1,e1⟩:=hD e
 exact ⟨h',h1,(Option.some.inj e1).symm⟩
theorem X5 {argTypes:Array TypeId} {sT xT elem:TypeId} {xd:TypeDesc} {size bytes:Nat} {z:AV} (h1:argTypes[0]? =some sT) (h2:argTypes[1]? =some xT) (h3:E.P.underlying sT=some (.slice elem)) (h4:E.P.underlying xT=some xd)
 (h5:px xd=false) (h6:bU E elem=some size) (h7:ke E elem=some bytes) (h8:gR E elem=some z) (h9:z.cells.length=size)
 {h:au} {s x:AV} {p:AV×au} (e:aes elem size bytes h s x=some p):dJ E h argTypes s x=some p:=by
 obtain ⟨m,a1,e1⟩:=hD e
 rw[X4] at a1
 obtain ⟨new,a2,e2⟩:=hD e1
 have a2:=QN a2
 obtain ⟨a3,e3⟩:=gF e2
 obtain ⟨a4,e4⟩:=gF e3
 rw[sg,Kz] at a3
 have a4:=oK a4
 rw[gD] at a4
 unfold dJ
 simp only[h1,h2,h3,h4,h5,h6,h7,h8,a1,a2]
 rw[if_neg (by simp)]
 rw[if_pos ⟨h9,a3,a4⟩]
 rcases pO e4 with ⟨rfl,e5⟩ | ⟨i,o,len,cap,op,rfl,e5⟩
 · cases hm:Nat.beq m 0 with
   | true=>
     rw[hm,j8] at e5
     simp only;rw[if_pos (oK hm)];exact e5
   | false=>
     rw[hm,eI] at e5
     obtain ⟨a5,e6⟩:=gF e5
     have a5:(4*m+4096)*(bytes+1)≤1099511627776:=gd a5
     obtain ⟨h',a6,rfl⟩:=T0 e6
     simp only
     rw[if_neg (by intro ee;rw[ee] at hm;cases hm),if_pos a5]
     simp only[a6]
 · obtain ⟨obj,a5,e6⟩:=hD e5
   obtain ⟨cs,el,ro,rfl,e7⟩:=sl e6
   obtain ⟨a6,e8⟩:=sj e7
   subst a6
   simp only[a5]
   cases hc:Nat.ble (Nat.add len m) cap with
   | true=>
     rw[hc,j8] at e8
     have hc:len+m≤cap:=gd hc
     obtain ⟨a7,e9⟩:=gF e8
     have a7:o+(len+m)*size≤jO cs:=gd a7
     rw[gD] at a7
     rw[if_pos hc,if_pos a7,←Option.some.inj e9,Ie];rfl
   | false=>
     rw[hc,eI] at e8
     have hc:cap<len+m:=lp hc
     obtain ⟨a7,e9⟩:=gF e8
     have a7:(4*(len+m)+4096)*(bytes+1)≤1099511627776:=gd a7
     obtain ⟨a8,e10⟩:=gF e9
     have a8:o+len*size≤jO cs:=gd a8
     rw[gD] at a8
     rw[if_neg (by omega)]
     cases op with
     | true=>
       rw[j8] at e10
       obtain ⟨a9,e11⟩:=gF e10
       obtain ⟨a10,e12⟩:=gF e11
       have a9:=oK a9
       have a10:o+cap*size=jO cs:=oK a10
       rw[gD] at a10
       obtain ⟨h',a11,rfl⟩:=T0 e12
       rw[o7,rD,rC] at a11
       rw[if_pos ⟨a7,a8,fun _=>⟨a9,a10⟩⟩]
       rw[if_pos rfl]
       have abx:(h.put i none).new (.cells ((cs.drop o).take (len*size)++new) elem false)=some h':=a11
       simp only[abx];rfl
     | false=>
       rw[eI] at e10
       obtain ⟨h',a11,rfl⟩:=T0 e10
       rw[o7,rD,rC] at a11
       rw[if_pos ⟨a7,a8,fun hh=>by cases hh⟩]
       rw[if_neg (by simp)]
       have abx:h.new (.cells ((cs.drop o).take (len*size)++new) elem false)=some h':=a11
       simp only[abx];rfl
theorem mH {b:Builtin} (h1:b≠ .len) (h2:b≠ .cap) (h3:b≠ .max) (h4:b≠ .min) (a:Array Operand) (t:Array TypeId):uH E (.call ⟨.builtin b,a,t⟩):=by
 cases b<;>first | exact absurd rfl h1 | exact absurd rfl h2 | exact absurd rfl h3 | exact absurd rfl h4 | exact ⟨fun _=>rfl,fun _ _=>rfl,fun _=>rfl⟩
theorem QO (a:Array Operand) (t:Array TypeId):gO E F n (.call ⟨.builtin .append,a,t⟩) (match a.toList with
 | [s,x]=>wO E F n s (fun gs=>wO E F n x (fun gx=>Ty E t gs gx) .bad) .bad
 | _=> .bad):=by
 have nn:uH E (.call ⟨.builtin .append,a,t⟩):=mH (by simp) (by simp) (by simp) (by simp) a t
 generalize hl:a.toList=l
 match l with
 | []=>trivial
 | [_]=>trivial
 | _::_::_::_=>trivial
 | [s,x]=>
   simp only
   rcases bY E F n s (fun gs=>wO E F n x (fun gx=>Ty E t gs gx) .bad) (.bad:Kd F.T) with h | ⟨gs,h,hs⟩<;>rw[h]
   · trivial
   rcases bY E F n x (fun gx=>Ty E t gs gx) (.bad:Kd F.T) with h | ⟨gx,h,hx⟩<;>rw[h]
   · trivial
   unfold Ty
   simp only[hU,Array.getElem?_toList,jr,pR,TJ,AI]
   have fin:∀(f:F.T→au→Option (AV×au)),(∀r h p,f r h=some p→dJ E h t (gs r) (gx r)=some p)→gO E F n (.call ⟨.builtin .append,a,t⟩) (.wr f):=by
    intro f hf
    refine ⟨nn,fun call r h rc o p ho e=>?_⟩
    simp only[dA,ho,hl,GO (hs r) (hx r),hf r h p e]
   cases h1:t[0]? with
   | none=>trivial
   | some sT=>cases h2:t[1]? with
     | none=>trivial
     | some xT=>
       simp only
       cases h3:E.P.underlying sT with
       | none=>trivial
       | some sd=>cases h4:E.P.underlying xT with
         | none=>cases sd<;>trivial
         | some xd=>cases sd with
           | slice elem=>
             simp only
             cases h5:px xd with
             | true=>
               rw[if_pos rfl]
               apply fin
               intro r h p e
               unfold dJ
               simp only[h1,h2,h3,h4,h5]
               rw[if_pos trivial];exact e
             | false=>
               rw[if_neg (by simp)]
               cases h6:bU E elem with
               | none=>trivial
               | some size=>cases h7:ke E elem with
                 | none=>trivial
                 | some bytes=>cases h8:gR E elem with
                   | none=>trivial
                   | some z=>
                     simp only
                     by_cases h9:z.cells.length=size
                     · rw[if_pos h9]
                       exact fin _ fun r h p e=>X5 h1 h2 h3 h4 h5 h6 h7 h8 h9 e
                     · rw[if_neg h9];trivial
           | _=>trivial
theorem Pf (a:Array Operand) (t:Array TypeId):gO E F n (.call ⟨.builtin .copy,a,t⟩) (match a.toList with
 | [s,x]=>wO E F n s (fun gs=>wO E F n x (fun gx=> .wr fun r h=>s9 E h t (gs r) (gx r)) .bad) .bad
 | _=> .bad):=by
 have nn:uH E (.call ⟨.builtin .copy,a,t⟩):=mH (by simp) (by simp) (by simp) (by simp) a t
 generalize hl:a.toList=l
 match l with
 | []=>trivial
 | [_]=>trivial
 | _::_::_::_=>trivial
 | [s,x]=>
   simp only
   rcases bY E F n s (fun gs=>wO E F n x (fun gx=>(.wr fun r h=>s9 E h t (gs r) (gx r):Kd F.T)) .bad) (.bad:Kd F.T) with h | ⟨gs,h,hs⟩<;>rw[h]
   · trivial
   rcases bY E F n x (fun gx=>(.wr fun r h=>s9 E h t (gs r) (gx r):Kd F.T)) (.bad:Kd F.T) with h | ⟨gx,h,hx⟩<;>rw[h]
   · trivial
   refine ⟨nn,fun call r h rc o p ho e=>?_⟩
   simp only[dA,ho,hl,GO (hs r) (hx r),e]
theorem M5 (a:Array Operand) (t:Array TypeId):gO E F n (.call ⟨.builtin .recover,a,t⟩) (.vV fun _ _ h rc=>match rc with
 | .jM x=> .s_ x
 | .JB _=> .fail "" none
 | _=> .val .nilIface h):=by
 refine ⟨mH (by simp) (by simp) (by simp) (by simp) a t,fun fc call _ r h rc o ho=>?_⟩
 simp only[dA,ho]
 cases rc<;>first | trivial | rfl
theorem aby (a:Array Operand) (t:Array TypeId):gO E F n (.call ⟨.builtin .len,a,t⟩) (match jP t.toList 0,a.toList with
 | some t,[x]=>wO E F n x (fun g=>match kN E.P t with
   | some .string=> .hG fun r=>sc (fun s=>some (.int .i64 (Int.ofNat (jO s)))) none (g r)
   | some (.array m _)=> .hG fun _=>some (.int .i64 (Int.ofNat m))
   | some (.slice _)=> .hG fun r=>kh (some (.int .i64 (Int.ofNat 0))) (fun _ _ m _ _=>some (.int .i64 (Int.ofNat m))) (vZ (some (.int .i64 (Int.ofNat 0))) none (g r)) (g r)
   | some (.map _ _)=> .red fun r h=>OZ h (g r)
   | _=> .bad) .bad
 | _,_=> .bad):=by
 rw[hU,Array.getElem?_toList]
 cases ht:t[0]? with
 | none=>trivial
 | some tt=>
   generalize hl:a.toList=l
   match l with
   | []=>trivial
   | _::_::_=>trivial
   | [x]=>
     simp only[jr]
     rcases bY E F n x (fun g=>match E.P.underlying tt with
      | some .string=>(.hG fun r=>sc (fun s=>some (.int .i64 (Int.ofNat (jO s)))) none (g r):Kd F.T)
      | some (.array m _)=> .hG fun _=>some (.int .i64 (Int.ofNat m))
      | some (.slice _)=> .hG fun r=>kh (some (.int .i64 (Int.ofNat 0))) (fun _ _ m _ _=>some (.int .i64 (Int.ofNat m))) (vZ (some (.int .i64 (Int.ofNat 0))) none (g r)) (g r)
      | some (.map _ _)=> .red fun r h=>OZ h (g r)
      | _=> .bad) .bad with h | ⟨g,h,hg⟩<;>rw[h]
     · trivial
     cases hu:E.P.underlying tt with
     | none=>trivial
     | some d=>cases d with
       | string=>
         intro r v e
         obtain ⟨s,e1,e2⟩:=pN e
         simp only[bC,ht,hl,j0 (hg r),hu,e1]
         rw[←e2,gD];rfl
       | array m el=>
         intro r v e
         simp only[bC,ht,hl,j0 (hg r),hu]
         exact e
       | slice el=>
         intro r v e
         rcases Ky e with ⟨e1,e2⟩ | ⟨i,o,l,c,b,e1,e2⟩ | ⟨e1,e2⟩
         · simp only[bC,ht,hl,j0 (hg r),hu,e1];exact e2
         · simp only[bC,ht,hl,j0 (hg r),hu,e1];exact e2
         · simp only[bC,ht,hl,j0 (hg r),hu,e1];exact e2
       | map key el=>
         intro r h v e
         have e:OZ h (g r)=some v:=e
         generalize hm:g r=m at e
         cases m with
         | eF=>exact .inl (by simp only[bC,ht,hl,j0 (hg r),hu,hm];exact e)
         | map i=>
           refine .inr ⟨by simp only[bC,ht,hl,j0 (hg r),hu,hm],?_⟩
           obtain ⟨o,h3,h4⟩:=hD (show ob none (fun o=>XK (fun es=>some (AV.int .i64 (Int.ofNat (jO es)))) none o) (h.get i)=some v from e)
           cases o with
           | map es c=>
             have h4:some (AV.int .i64 (Int.ofNat (jO es)))=some v:=h4
             simp only[eH,ht,hl,j0 (hg r),hu,hm,h3]
             rw[←h4,gD];rfl
           | _=>cases h4
         | _=>cases e
       | _=>trivial
theorem abz (a:Array Operand) (t:Array TypeId):gO E F n (.call ⟨.builtin .cap,a,t⟩) (match jP t.toList 0,a.toList with
 | some t,[x]=>wO E F n x (fun g=>match kN E.P t with
   | some (.slice _)=> .hG fun r=>kh (some (.int .i64 (Int.ofNat 0))) (fun _ _ _ c b=>bc b none (some (.int .i64 (Int.ofNat c)))) none (g r)
   | _=> .bad) .bad
 | _,_=> .bad):=by
 rw[hU,Array.getElem?_toList]
 cases ht:t[0]? with
 | none=>trivial
 | some tt=>
   generalize hl:a.toList=l
   match l with
   | []=>trivial
   | _::_::_=>trivial
   | [x]=>
     simp only[jr]
     rcases bY E F n x (fun g=>match E.P.underlying tt with
      | some (.slice _)=>(.hG fun r=>kh (some (.int .i64 (Int.ofNat 0))) (fun _ _ _ c b=>bc b none (some (.int .i64 (Int.ofNat c)))) none (g r):Kd F.T)
      | _=> .bad) .bad with h | ⟨g,h,hg⟩<;>rw[h]
     · trivial
     cases hu:E.P.underlying tt with
     | none=>trivial
     | some d=>cases d with
       | slice el=>
         intro r v e
         rcases pO e with ⟨e1,e2⟩ | ⟨i,o,l,c,b,e1,e2⟩
         · simp only[bC,ht,hl,j0 (hg r),hu,e1];exact e2
         · obtain ⟨rfl,e3⟩:=sj e2
           simp only[bC,ht,hl,j0 (hg r),hu,e1];exact e3
       | _=>trivial
theorem QP (f:FuncId) (a:Array Operand) (t:Array TypeId):gO E F n (.call ⟨.value (.func f),a,t⟩) (wL E F n a.toList (fun gs=>match E.nN f with
 | some e=> .hG fun r=>e (gs r)
 | none=>match E.jm f with
   | some g=> .wr fun r h=>g (gs r) h
   | none=> .call (.fn f) gs) .bad):=by
 rcases vE E F n a.toList (fun gs=>match E.nN f with
  | some e=>(.hG fun r=>e (gs r):Kd F.T)
  | none=>match E.jm f with
    | some g=> .wr fun r h=>g (gs r) h
    | none=> .call (.fn f) gs) .bad with h | ⟨gs,h,hg⟩<;>rw[h]
 · trivial
 cases hp:E.nN f with
 | some e=>
   intro r v h
   simp only[bC,hp,hg];exact h
 | none=>
   have nn:uH E (.call ⟨.value (.func f),a,t⟩):=⟨fun _=>by simp only[bC,hp],fun _ _=>rfl,fun _=>rfl⟩
   have hc:∀r,callee E (fC F n r) ⟨.value (.func f),a,t⟩=some (.fn f,gs r):=by
    intro r
    simp only[callee,hg,fb]
    simp
   cases hs:E.jm f with
   | some g=>
     refine ⟨nn,fun call r h rc o p ho e=>?_⟩
     have e':g (gs r) h=some p:=e
     simp only[dA,ho,hc,kJ,hs,e']
   | none=>
     refine ⟨nn,fun call r h rc o ho=>?_⟩
     simp only[dA,ho,hc,kJ,hs]
     cases call (.fn f) (gs r) h<;>rfl
theorem DI {a b:j3} (h1:∀v h',a= .ret v h'→b= .ret v h') (h2:∀v h',a= .panic v h'→b= .panic v h'):ELe (n8 a) (n8 b):=by
 cases a with
 | ret v h=>rw[h1 v h rfl];rfl
 | panic v h=>rw[h2 v h rfl];rfl
 | fail _ _=>trivial
theorem xj (x:Operand) (hx:∀f,x≠ .func f) (a:Array Operand) (t:Array TypeId):gO E F n (.call ⟨.value x,a,t⟩) (wO E F n x (fun gf=>wL E F n a.toList (fun gs=> .vV fun call r h _=>OW
 (fun g first captured=>ob (n8 (call (.fn g) (mw first (mw (gs r) captured)) h)) (fun sp=>ob (.fail "" none) (fun p=> .val p.1 p.2) (sp (mw first (mw (gs r) captured)) h)) (E.jm g))
 (fun l=>n8 (call (.Bh l) (gs r) h)) (.fail "" none) (gf r)) .bad) .bad):=by
 have nn:uH E (.call ⟨.value x,a,t⟩):=by
  cases x with
  | func f=>exact absurd rfl (hx f)
  | _=>exact ⟨fun _=>rfl,fun _ _=>rfl,fun _=>rfl⟩
 let K:(F.T→AV)→(F.T→List AV)→Kd F.T:=fun gf gs=> .vV fun call r h _=>OW
  (fun g first captured=>ob (n8 (call (.fn g) (mw first (mw (gs r) captured)) h)) (fun sp=>ob (.fail "" none) (fun p=> .val p.1 p.2) (sp (mw first (mw (gs r) captured)) h)) (E.jm g))
  (fun l=>n8 (call (.Bh l) (gs r) h)) (.fail "" none) (gf r)
 show gO E F n _ (wO E F n x (fun gf=>wL E F n a.toList (fun gs=>K gf gs) .bad) .bad)
 rcases bY E F n x (fun gf=>wL E F n a.toList (fun gs=>K gf gs) .bad) .bad with h | ⟨gf,h,hf⟩<;>rw[h]
 · trivial
 rcases vE E F n a.toList (fun gs=>K gf gs) .bad with h | ⟨gs,h,hg⟩<;>rw[h]
 · trivial
 refine ⟨nn,fun fc call hle r h rc o ho=>?_⟩
 have ec:∀R,callee E (fC F n r) ⟨.value x,a,t⟩=R→dA E call (fC F n r) h rc o=(match R with
  | some (f,args)=>match kJ E f with
    | some g=>(match g args h with | some (x,h')=> .val x h' | none=> .fail "eff" (some o))
    | none=>n8 (call f args h)
  | none=> .fail "callee" (some o)):=by
  intro R hR
  simp only[dA,ho,hR]
  cases R with
  | none=>rfl
  | some p=>
    obtain ⟨f,args⟩:=p
    simp only
    cases kJ E f with
    | none=>simp only;cases call f args h<;>rfl
    | some g=>rfl
 show ELe (OW _ _ _ (gf r)) _
 cases hv:gf r with
 | func g first captured=>
   have hc:callee E (fC F n r) ⟨.value x,a,t⟩=some (.fn g,first++gs r++captured):=by
    simp only[callee,hf,hg,hv]
   rw[ec _ hc]
   have ha:mw first (mw (gs r) captured)=first++gs r++captured:=by rw[o7,o7,List.append_assoc]
   show ELe (ob (n8 (fc (.fn g) (mw first (mw (gs r) captured)) h)) (fun sp=>ob (.fail "" none) (fun p=> .val p.1 p.2) (sp (mw first (mw (gs r) captured)) h)) (E.jm g)) _
   rw[ha]
   simp only[kJ]
   cases hs:E.jm g with
   | none=>exact DI (hle _ _ _).1 (hle _ _ _).2
   | some sp=>
     show ELe (ob (.fail "" none) (fun p=> .val p.1 p.2) (sp (first++gs r++captured) h)) _
     simp only
     cases sp (first++gs r++captured) h with
     | none=>trivial
     | some p=>rfl
 | tT l=>
   have hc:callee E (fC F n r) ⟨.value x,a,t⟩=some (.Bh l,gs r):=by
    simp only[callee,hf,hg,hv]
   rw[ec _ hc]
   simp only[kJ]
   exact DI (hle _ _ _).1 (hle _ _ _).2
 | _=>trivial
theorem QR (x:Operand) (name:String) (a:Array Operand) (t:Array TypeId):gO E F n (.call ⟨.invoke x name,a,t⟩) (wO E F n x (fun gx=>wL E F n a.toList (fun gs=> .vV fun call r h _=>se
 (fun t v=>ob (.fail "" none) (fun f=>n8 (call (.fn f) (v::gs r) h)) (Kv E t name)) (.fail "" none) (gx r)) .bad) .bad):=by
 have nn:uH E (.call ⟨.invoke x name,a,t⟩):=⟨fun _=>rfl,fun _ _=>rfl,fun _=>rfl⟩
 let K:(F.T→AV)→(F.T→List AV)→Kd F.T:=fun gx gs=> .vV fun call r h _=>se
  (fun t v=>ob (.fail "" none) (fun f=>n8 (call (.fn f) (v::gs r) h)) (Kv E t name)) (.fail "" none) (gx r)
 show gO E F n _ (wO E F n x (fun gx=>wL E F n a.toList (fun gs=>K gx gs) .bad) .bad)
 rcases bY E F n x (fun gx=>wL E F n a.toList (fun gs=>K gx gs) .bad) .bad with h | ⟨gx,h,hx⟩<;>rw[h]
 · trivial
 rcases vE E F n a.toList (fun gs=>K gx gs) .bad with h | ⟨gs,h,hg⟩<;>rw[h]
 · trivial
 refine ⟨nn,fun fc call hle r h rc o ho=>?_⟩
 show ELe (se _ _ (gx r)) _
 cases hv:gx r with
 | iface u v=>
   show ELe (ob (.fail "" none) (fun f=>n8 (fc (.fn f) (v::gs r) h)) (Kv E u name)) _
   cases hm:Kv E u name with
   | none=>trivial
   | some f=>
     have WN:ym E u name=some f:=hm
     have ec:dA E call (fC F n r) h rc o=n8 (call (.fn f) (v::gs r) h):=by
      simp only[dA,ho,hx,hg,hv,WN]
      cases call (.fn f) (v::gs r) h<;>rfl
     rw[ec]
     exact DI (hle _ _ _).1 (hle _ _ _).2
 | _=>trivial
theorem T3 (c:Call):gO E F n (.call c) (aac E F n c (.call c)):=by
 obtain ⟨cR,a,t⟩:=c
 cases cR with
 | value x=>cases x with
   | func f=>exact QP f a t
   | tmp x=>exact xj (.tmp x) (by simp) a t
   | const x=>exact xj (.const x) (by simp) a t
   | global x=>exact xj (.global x) (by simp) a t
 | invoke r m=>exact QR r m a t
 | builtin b=>cases b with
   | append=>exact QO a t
   | copy=>exact Pf a t
   | recover=>exact M5 a t
   | len=>exact aby a t
   | cap=>exact abz a t
   | max=>exact fun r v e=>e
   | min=>exact fun r v e=>e
   | _=>trivial
theorem KG (op:Op):gO E F n op (wi E F n op):=by
 cases op with
 | move x=>
   show gO E F n _ (wO E F n x .JE .bad)
   rcases bY E F n x .JE (.bad:Kd F.T) with h | ⟨g,h,hg⟩<;>rw[h]
   · trivial
   · exact hg
 | assign x=>
   show gO E F n _ (wO E F n x .JE .bad)
   rcases bY E F n x .JE (.bad:Kd F.T) with h | ⟨g,h,hg⟩<;>rw[h]
   · trivial
   · exact hg
 | pick c a b=>exact X1 c a b
 | binOp op t x y yt=>
   show gO E F n _ (wO E F n x (fun gx=>wO E F n y (fun gy=>gE op (nf E op t (isConst x) (isConst y)) gx gy) .bad) .bad)
   rcases bY E F n x (fun gx=>wO E F n y (fun gy=>gE op (nf E op t (isConst x) (isConst y)) gx gy) .bad) (.bad:Kd F.T) with h | ⟨gx,h,hx⟩<;>rw[h]
   · trivial
   rcases bY E F n y (fun gy=>gE op (nf E op t (isConst x) (isConst y)) gx gy) (.bad:Kd F.T) with h | ⟨gy,h,hy⟩<;>rw[h]
   · trivial
   exact XZ op t x y yt gx gy hx hy
 | unOp op t x=>
   show gO E F n _ (wO E F n x (unK op) .bad)
   rcases bY E F n x (unK op) (.bad:Kd F.T) with h | ⟨g,h,hg⟩<;>rw[h]
   · trivial
   exact abr op t x g hg
 | fieldAddr s x f=>exact Ih s x f
 | load t a=>exact X0 t a
 | store t a x=>exact TU t a x
 | nilCheck x=>exact KB x
 | extract x i=>exact M3 x i
 | field s x f=>exact TP s x f
 | indexAddr t x ix=>exact Ii t x ix
 | index t x ix=>exact TQ t x ix
 | slice t x lo hi mx=>cases mx with
   | none=>exact TS t x lo hi
   | some m=>exact fun r v e=>e
 | convert s d x=>exact M4 s d x
 | makeInterface t x=>exact AJ t x
 | makeFunc f a b=>cases f with
   | func f=>exact KD f a b
   | _=>trivial
 | alloc t=>exact TV t
 | box t x=>exact abw t x
 | buildSlice t len parts=>exact FH t len parts
 | makeSlice t l c=>exact Ij t l c
 | makeMap t r=>cases r with
   | none=>exact ⟨fun _=>rfl,fun _ _=>rfl,fun r p e=>e⟩
   | some x=>exact ⟨fun _=>rfl,fun _ _=>rfl,fun r p e=>e⟩
 | range t x=>exact ⟨fun _=>rfl,fun _ _=>rfl,fun r p e=>e⟩
 | lookup t x ix ok=>exact QL t x ix ok
 | build t parts=>exact TX t parts
 | typeAssert x a b ok=>exact fun r v e=>e
 | mapUpdate t m k x=>exact Ik t m k x
 | insert t m k x=>exact QM t m k x
 | next it s=>exact X3 it s
 | panic x=>exact TY x
 | defer c=>exact TZ c
 | call c=>exact T3 c
 | _=>trivial
end Go.Ab.Fa
end
section
namespace Go.Ab.Fa
variable {E:Env} {F:RF} {n:Nat}
def tC (_E:Env) (F:RF) (n:Nat) (o:FO F.T) (out:Out):Prop:=match o with
 | .Kr r h y=>out= .ok .normal ⟨fC F n r,h,y.ds,y.rc⟩
 | .jmp e r h y=>e≠ .normal∧out= .ok e ⟨fC F n r,h,y.ds,y.rc⟩
 | .bad=>True
theorem Il {call:bq} {s:St} {o:Oper} {v:AV} (h:bC E s.ts o.op=some v):Hz E call s o= .ok .normal {s with ts:=dt s.ts o.dst v}:=by
 simp only[Hz,h]
theorem X6 {call:bq} {s:St} {o:Oper} {v:AV} (h0:bC E s.ts o.op=none) (h:eH E s.ts s.h o.op=some v):Hz E call s o= .ok .normal {s with ts:=dt s.ts o.dst v}:=by
 simp only[Hz,h0,h]
theorem Im {call:bq} {s:St} {o:Oper} (nn:uH E o.op):Hz E call s o=(match dA E call s.ts s.h s.rc o with
 | .val v h'=> .ok .normal {s with ts:=dt s.ts o.dst v,h:=h'}
 | .defer d=> .ok .normal {s with ts:=dt s.ts o.dst AV.undef,ds:=d::s.ds}
 | .s_ v=> .ok .normal {s with ts:=dt s.ts o.dst v,rc:= .done}
 | .panic v h'=> .ok (.panic v) {s with h:=h'}
 | .fail why q=> .fail why q):=by
 simp only[Hz,nn.1,nn.2.1,nn.2.2]
 generalize dA E call s.ts s.h s.rc o=x
 cases x<;>rfl
noncomputable def aex (E:Env) (call:bq) (ops:Array Oper) (rest:List Oper) (out:Out):Out:=match out with
 | .ok .normal s'=>lf E call ops rest s'
 | r=>r
theorem X7 {ops:Array Oper} {o:Oper} {rest:List Oper} {kd:Kd F.T} {s:AV→F.T→F.T} {j:I F.T} {fc call:bq} (hle:lq fc call) (hk:gO E F n o.op kd)
 (hs:∀v r,dt (fC F n r) o.dst v=fC F n (s v r)) (hj:∀r h y,tC E F n (j.run fc r h y) (lf E call ops rest ⟨fC F n r,h,y.ds,y.rc⟩)) (r:F.T) (h:au) (y:Y):
 tC E F n ((MW kd s j).run fc r h y) (aex E call ops rest (Hz E call ⟨fC F n r,h,y.ds,y.rc⟩ o)):=by
 cases kd with
 | JE g=>
   rw[Il (s:=⟨fC F n r,h,y.ds,y.rc⟩) (hk r)]
   show tC E F n (j.run fc (s (g r) r) h y) (lf E call ops rest ⟨dt (fC F n r) o.dst (g r),h,y.ds,y.rc⟩)
   rw[hs];exact hj _ _ _
 | hG f=>
   show tC E F n (ob .bad (fun v=>j.run fc (s v r) h y) (f r)) _
   cases hf:f r with
   | none=>trivial
   | some v=>
     rw[Il (s:=⟨fC F n r,h,y.ds,y.rc⟩) (hk r v hf)]
     show tC E F n (j.run fc (s v r) h y) (lf E call ops rest ⟨dt (fC F n r) o.dst v,h,y.ds,y.rc⟩)
     rw[hs];exact hj _ _ _
 | red f=>
   show tC E F n (ob .bad (fun v=>j.run fc (s v r) h y) (f r h)) _
   cases hf:f r h with
   | none=>trivial
   | some v=>
     rcases hk r h v hf with h0 | ⟨h0,h1⟩
     · rw[Il (s:=⟨fC F n r,h,y.ds,y.rc⟩) h0]
       show tC E F n (j.run fc (s v r) h y) (lf E call ops rest ⟨dt (fC F n r) o.dst v,h,y.ds,y.rc⟩)
       rw[hs];exact hj _ _ _
     rw[X6 (s:=⟨fC F n r,h,y.ds,y.rc⟩) h0 h1]
     show tC E F n (j.run fc (s v r) h y) (lf E call ops rest ⟨dt (fC F n r) o.dst v,h,y.ds,y.rc⟩)
     rw[hs];exact hj _ _ _
 | tY f=>
   obtain ⟨h0,h1,h2⟩:=hk
   show tC E F n (ob .bad (fun p=>ob .bad (fun h'=>j.run fc (s (p.2 h.nx) r) h' y) (h.new p.1)) (f r)) _
   cases hf:f r with
   | none=>trivial
   | some p=>
     obtain ⟨obj,mk⟩:=p
     show tC E F n (ob .bad (fun h'=>j.run fc (s (mk h.nx) r) h' y) (h.new obj)) _
     cases hh:h.new obj with
     | none=>trivial
     | some h'=>
       have:Hz E call ⟨fC F n r,h,y.ds,y.rc⟩ o= .ok .normal ⟨dt (fC F n r) o.dst (mk h.nx),h',y.ds,y.rc⟩:=by
        simp only[Hz,h0,h1,h2 r _ hf,hh]
       rw[this,hs];exact hj _ _ _
 | wr f=>
   obtain ⟨nn,h1⟩:=hk
   show tC E F n (ob .bad (fun p=>j.run fc (s p.1 r) p.2 y) (f r h)) _
   cases hf:f r h with
   | none=>trivial
   | some p=>
     rw[Im nn,h1 call r h y.rc o p rfl hf]
     show tC E F n (j.run fc (s p.1 r) p.2 y) (lf E call ops rest ⟨dt (fC F n r) o.dst p.1,p.2,y.ds,y.rc⟩)
     rw[hs];exact hj _ _ _
 | call g args=>
   obtain ⟨nn,h1⟩:=hk
   rw[Im nn,h1 call r h y.rc o rfl]
   show tC E F n (j3.rec (motive:=fun _=>FO F.T) (fun v h'=>j.run fc (s v r) h' y) (fun v h'=> .jmp (.panic v) r h' y) (fun _ _=> .bad) (fc g (args r) h)) _
   cases hc:fc g (args r) h with
   | fail _ _=>trivial
   | ret v h'=>
     rw[(hle _ _ _).1 v h' hc]
     show tC E F n (j.run fc (s v r) h' y) (lf E call ops rest ⟨dt (fC F n r) o.dst v,h',y.ds,y.rc⟩)
     rw[hs];exact hj _ _ _
   | panic v h'=>
     rw[(hle _ _ _).2 v h' hc]
     exact ⟨by simp,rfl⟩
 | vV f=>
   obtain ⟨nn,h1⟩:=hk
   rw[Im nn]
   have h2:=h1 fc call hle r h y.rc o rfl
   show tC E F n (Ah.rec (motive:=fun _=>FO F.T) (fun v h'=>j.run fc (s v r) h' y) (fun d=>j.run fc (s AV.undef r) h ⟨d::y.ds,y.rc⟩) (fun v=>j.run fc (s v r) h ⟨y.ds,.done⟩)
    (fun v h'=> .jmp (.panic v) r h' y) (fun _ _=> .bad) (f fc r h y.rc)) _
   cases he:f fc r h y.rc with
   | fail _ _=>trivial
   | val v h'=>
     rw[he] at h2
     have h2:dA E call (fC F n r) h y.rc o= .val v h':=h2
     rw[h2]
     show tC E F n (j.run fc (s v r) h' y) (lf E call ops rest ⟨dt (fC F n r) o.dst v,h',y.ds,y.rc⟩)
     rw[hs];exact hj _ _ _
   | defer d=>
     rw[he] at h2
     have h2:dA E call (fC F n r) h y.rc o= .defer d:=h2
     rw[h2]
     show tC E F n (j.run fc (s AV.undef r) h ⟨d::y.ds,y.rc⟩) (lf E call ops rest ⟨dt (fC F n r) o.dst AV.undef,h,d::y.ds,y.rc⟩)
     rw[hs];exact hj _ _ ⟨d::y.ds,y.rc⟩
   | s_ v=>
     rw[he] at h2
     have h2:dA E call (fC F n r) h y.rc o= .s_ v:=h2
     rw[h2]
     show tC E F n (j.run fc (s v r) h ⟨y.ds,.done⟩) (lf E call ops rest ⟨dt (fC F n r) o.dst v,h,y.ds,.done⟩)
     rw[hs];exact hj _ _ ⟨y.ds,.done⟩
   | panic v h'=>
     rw[he] at h2
     have h2:dA E call (fC F n r) h y.rc o= .panic v h':=h2
     rw[h2]
     exact ⟨by simp,rfl⟩
 | bad=>trivial
def AK (ts:List AV) (d:Nat) (want:Bool):Bool:=match ts[d]? with
 | some (.bool b)=>b==want
 | _=>false
theorem Bw {ts:List AV} {d:Nat} (h:ts.length≤d) (want:Bool):AK ts d want=false:=by
 unfold AK;rw[List.getElem?_eq_none h]
theorem Bx {ts:List AV} {d:Nat} {v:AV} (h:ts[d]? =some v) (want:Bool):AK ts d want=kg (fun b=>b==want) false v:=by
 unfold AK;rw[h];cases v<;>rfl
theorem yN (ops:Array Oper) (ts:List AV) (o:Oper) {j:Nat} {want:Bool} (hg:o.guard=some (j,want)):cJ ops ts o=(match (ops[j]?).bind (·.dst) with
 | some d=>match ts[d]? with
   | some (.bool b)=>b==want
   | _=>false
 | none=>false):=by simp only[cJ,hg];rfl
theorem T4 (ops:Array Oper) (j:Nat):ob none (fun p=>p.dst) (jP ops.toList j)=(ops[j]?).bind (·.dst):=by
 rw[hU,Array.getElem?_toList];cases ops[j]? <;>rfl
theorem T5 (_hn:n≤F.N) (ops:Array Oper) (o:Oper) (a b:I F.T) (call:bq) (r:F.T) (h:au) (y:Y):
 (O2 F n ops o a b).run call r h y=bif cJ ops (fC F n r) o then a.run call r h y else b.run call r h y:=by
 unfold O2
 cases hg:o.guard with
 | none=>simp only[cJ,hg];rfl
 | some p=>
   obtain ⟨j,want⟩:=p
   rw[yN ops _ o hg]
   simp only[T4]
   cases (ops[j]?).bind (·.dst) with
   | none=>rfl
   | some d=>
     show (bc (Nat.ble n d) b (MX (F.get d).f want a b)).run call r h y=bif AK (fC F n r) d want then a.run call r h y else b.run call r h y
     cases hd:Nat.ble n d with
     | true=>
       rw[Bw (by rw[jq];exact gd hd)];rfl
     | false=>
       rw[Bx (vA F n r (lp hd)),eI]
       cases want with
       | true=>
         show kg (fun t=>bc t (a.run call r h y) (b.run call r h y)) (b.run call r h y) ((F.get d).f r)=_
         cases (F.get d).f r with
         | bool t=>cases t<;>rfl
         | _=>rfl
       | false=>
         show kg (fun t=>bc t (b.run call r h y) (a.run call r h y)) (b.run call r h y) ((F.get d).f r)=_
         cases (F.get d).f r with
         | bool t=>cases t<;>rfl
         | _=>rfl
theorem KH (_hn:n≤F.N) (ops:Array Oper) (o:Oper) (a b:D F.T) (call:bq) (r:F.T) (h:au) (y:Y):
 (Bt F n ops o a b).run call r h y=bif cJ ops (fC F n r) o then a.run call r h y else b.run call r h y:=by
 unfold Bt
 cases hg:o.guard with
 | none=>simp only[cJ,hg];rfl
 | some p=>
   obtain ⟨j,want⟩:=p
   rw[yN ops _ o hg]
   simp only[T4]
   cases (ops[j]?).bind (·.dst) with
   | none=>rfl
   | some d=>
     show (bc (Nat.ble n d) b (TB (F.get d).f want a b)).run call r h y=bif AK (fC F n r) d want then a.run call r h y else b.run call r h y
     cases hd:Nat.ble n d with
     | true=>
       rw[Bw (by rw[jq];exact gd hd)];rfl
     | false=>
       rw[Bx (vA F n r (lp hd)),eI]
       cases want with
       | true=>
         show kg (fun t=>bc t (a.run call r h y) (b.run call r h y)) (b.run call r h y) ((F.get d).f r)=_
         cases (F.get d).f r with
         | bool t=>cases t<;>rfl
         | _=>rfl
       | false=>
         show kg (fun t=>bc t (b.run call r h y) (a.run call r h y)) (b.run call r h y) ((F.get d).f r)=_
         cases (F.get d).f r with
         | bool t=>cases t<;>rfl
         | _=>rfl
theorem DJ (hn:n≤F.N) {fc call:bq} (hle:lq fc call) (ops:Array Oper):∀(l:List Oper) (r:F.T) (h:au) (y:Y),
 tC E F n ((vD E F n ops l).run fc r h y) (lf E call ops l ⟨fC F n r,h,y.ds,y.rc⟩)
 | [],r,h,y=>rfl
 | o::rest,r,h,y=>by
   have ih:=DJ hn hle ops rest
   show tC E F n ((Tz E F n ops o (vD E F n ops rest)).run fc r h y) _
   unfold Tz
   obtain ⟨s,h1,hs⟩:=Pd F n hn o.dst (fun s=>O2 F n ops o (MW (wi E F n o.op) s (vD E F n ops rest)) (aad s (vD E F n ops rest)))
   rw[h1,T5 hn]
   rw[lf]
   cases hw:cJ ops (fC F n r) o with
   | true=>
     rw[if_pos rfl]
     exact X7 hle (KG o.op) hs ih r h y
   | false=>
     rw[if_neg (by simp)]
     show tC E F n ((vD E F n ops rest).run fc (s AV.undef r) h y) _
     simp only[hs]
     exact ih _ _ _
def madeOf:TK→Option Nat
 | .tY n _=>some n
 | _=>none
theorem yO (x:Step) (t:List Step):rS (x::t)=match madeOf x.kind with | none=>rS t | some i=>i::rS t:=by
 show List.filterMap (fun x:Step=>madeOf x.kind) (x::t)=_
 rw[List.filterMap_cons];cases madeOf x.kind<;>rfl
inductive qn (E:Env) (ops:Array Oper) (pl:nk):List QH→List Step→Prop
 | nil:qn E ops pl [] []
 | skip {x:Step} {c:List QH} {t:List Step} (hs:∀h,kf E ops x h=true) (hm:madeOf x.kind=none) (ht:qn E ops pl c t):qn E ops pl c (x::t)
 | X8 {x:Step} {c0:QH} {c:List QH} {t:List Step} (hk:c0.k=x.k) (hl:c0.m=lg pl.bP pl.an x.i+1 - x.k) (hm:madeOf x.kind=c0.made)
  (hs:∀h,c0.f h=true→kf E ops x h=true) (ht:qn E ops pl c t):qn E ops pl (c0::c) (x::t)
theorem qn.made {ops:Array Oper} {pl:nk} {c:List QH} {t:List Step} (h:qn E ops pl c t):O6 c=rS t:=by
 induction h with
 | nil=>rfl
 | skip hs hm ht ih=>rw[yO,hm];exact ih
 | X8 hk hl hm hs ht ih=>
   rename_i x c0 c t
   show ob (O6 c) (fun i=>i::O6 c) c0.made=_
   rw[yO,hm,ih]
   cases c0.made<;>rfl
theorem qn.all {ops:Array Oper} {pl:nk} {hs:List au} {c:List QH} {t:List Step} (h:qn E ops pl c t) (e:c.all (fun x=>AB x.f (uC (uA hs x.k) x.m))=true):
 t.all (fun x=>((hs.drop x.k).take (lg pl.bP pl.an x.i+1 - x.k)).all (kf E ops x))=true:=by
 induction h with
 | nil=>rfl
 | skip rX hm ht ih=>
   rw[List.all_cons,ih e,Bool.and_true,List.all_eq_true]
   intro h _;exact rX h
 | X8 hk hl hm rX ht ih=>
   rw[List.all_cons,Bool.and_eq_true] at e
   rw[List.all_cons,ih e.2,Bool.and_true,List.all_eq_true]
   have e1:=e.1
   rw[sg,rD,rC,List.all_eq_true,hk,hl] at e1
   intro h hh;exact rX h (e1 h hh)
theorem DK {ops:Array Oper} {pl:nk} {hs:List au} {c:List QH} {t:List Step} (h:qn E ops pl c t) (e:si c hs=true):rT E ops pl t hs=true:=by
 unfold si at e
 rw[pM,Bool.and_eq_true,AF,sg,h.made] at e
 unfold rT
 rw[Bool.and_eq_true]
 exact ⟨e.1,h.all e.2⟩
def E' (E:Env) (F:RF) (n:Nat) (ops:Array Oper) (pl:nk) (d:DO F.T) (t:kK):Prop:=match d with
 | .ok tr hs r h y=>∃Ml,t= .ok Ml hs ⟨fC F n r,h,y.ds,y.rc⟩∧qn E ops pl tr Ml
 | .bad=>True
theorem E'.skip {ops:Array Oper} {pl:nk} {d:DO F.T} {t:kK} (h:E' E F n ops pl d t) {x:Step} (hs:∀h,kf E ops x h=true) (hm:madeOf x.kind=none):E' E F n ops pl d (t.step x):=by
 cases d with
 | bad=>trivial
 | ok tr rX r h' y=>
   obtain ⟨Ml,rfl,h2⟩:=h
   exact ⟨x::Ml,rfl,.skip hs hm h2⟩
theorem E'.bound {ops:Array Oper} {pl:nk} {d:DO F.T} {t:kK} (h:E' E F n ops pl d t) (h0:au):E' E F n ops pl (sh h0 d) (t.bound h0):=by
 cases d with
 | bad=>trivial
 | ok tr rX r h' y=>
   obtain ⟨Ml,rfl,h2⟩:=h
   exact ⟨Ml,rfl,h2⟩
theorem E'.X8 {ops:Array Oper} {pl:nk} {d:DO F.T} {t:kK} (h:E' E F n ops pl d t) {x:Step} {c:QH} (hk:c.k=x.k) (hl:c.m=lg pl.bP pl.an x.i+1 - x.k)
 (hm:madeOf x.kind=c.made) (hs:∀h,c.f h=true→kf E ops x h=true):E' E F n ops pl (GM c d) (t.step x):=by
 cases d with
 | bad=>trivial
 | ok tr rX r h' y=>
   obtain ⟨Ml,rfl,h2⟩:=h
   exact ⟨x::Ml,rfl,.X8 hk hl hm hs h2⟩
theorem KI:∀(m:Nat) (x y:AV),DC m x y=true→AV.same m x y=true
 | 0,_,_,e=>by cases e
 | m+1,x,y,e=>by
   have ih:=KI m
   have all:∀(a b:List AV),leq (DC m) a b=true→ep (AV.same m) a b=true:=by
    intro a
    induction a with
    | nil=>intro b;cases b<;>intro e<;>first | rfl | cases e
    | cons x tl ihl=>
      intro b
      cases b with
      | nil=>intro e;cases e
      | cons y tm=>
        intro e
        have e:bc (DC m x y) (leq (DC m) tl tm) false=true:=e
        rw[pM,Bool.and_eq_true] at e
        rw[ep,Bool.and_eq_true]
        exact ⟨ih _ _ e.1,ihl _ e.2⟩
   cases x with
   | int k a=>cases y with
     | int j b=>
       have e:bc (Ti k j) (Z_ a b) false=true:=e
       rw[pM,Bool.and_eq_true,MZ] at e
       rw[AV.same,O_ e.1,e.2];simp
     | _=>cases e
   | str a=>cases y with
     | str b=>
       have e:leq Dw a b=true:=e
       rw[M1] at e
       rw[AV.same];exact e
     | _=>cases e
   | ptr i o=>cases y with
     | ptr j p=>
       have e:bc (Nat.beq i j) (Nat.beq o p) false=true:=e
       rw[pM,Bool.and_eq_true] at e
       rw[AV.same,oK e.1,oK e.2];simp
     | _=>cases e
   | bool a=>cases y with
     | bool b=>
       have e:bc a b (xg b)=true:=e
       rw[AV.same]
       cases a<;>cases b<;>first | rfl | cases e
     | _=>cases e
   | agg a=>cases y with
     | agg b=>rw[AV.same];exact all a b e
     | _=>cases e
   | _=>exact e
theorem DL (hn:n≤F.N) {fc call:bq} (hle:lq fc call) (ops:Array Oper) (pl:nk):∀(l:List Nat) (k:Nat) (r:F.T) (h:au) (y:Y),
 E' E F n ops pl ((j7 E F n ops pl l k).run fc r h y) (dc E call ops l k ⟨fC F n r,h,y.ds,y.rc⟩)
 | [],k,r,h,y=>⟨[],rfl,.nil⟩
 | i::rest,k,r,h,y=>by
   have ih:=DL hn hle ops pl rest
   rw[dc]
   show E' E F n ops pl (D.run (ob ⟨fun _ _ _ _=> .bad⟩ (fun o=>wS F n o.dst fun s=>
    bc (rz E o.op) (canon (k+1) fun k'=>Bt F n ops o (O3 (wi E F n o.op) s (j7 E F n ops pl rest k')) (MY s (j7 E F n ops pl rest k')))
     (canon (CD pl.bP pl.an i+1 - k) fun m=>Bt F n ops o (O4 k m (wi E F n o.op) s (j7 E F n ops pl rest k)) (TA s (j7 E F n ops pl rest k)))) (jP ops.toList i)) fc r h y) _
   rw[hU,Array.getElem?_toList]
   cases ho:ops[i]? with
   | none=>trivial
   | some o=>
     have gS:(ops.getD i default).op=o.op:=by rw[Array.getD_eq_getD_getElem?,ho];rfl
     simp only[XN,mB,uF,MU]
     obtain ⟨s,h1,hs⟩:=Pd F n hn o.dst (fun s=>
      bc (fW E o.op) (Bt F n ops o (O3 (wi E F n o.op) s (j7 E F n ops pl rest (k+1))) (MY s (j7 E F n ops pl rest (k+1))))
      (Bt F n ops o (O4 k (lg pl.bP pl.an i+1 - k) (wi E F n o.op) s (j7 E F n ops pl rest k)) (TA s (j7 E F n ops pl rest k))))
     rw[h1]
     have hk:=KG (E:=E) (F:=F) (n:=n) o.op
     generalize wi E F n o.op=kd at hk
     cases he:fW E o.op with
     | true=>
       rw[j8,KH hn,if_pos rfl]
       cases hw:cJ ops (fC F n r) o with
       | false=>
         rw[if_neg (by simp)]
         show E' E F n ops pl (sh h ((j7 E F n ops pl rest (k+1)).run fc (s AV.undef r) h y)) _
         simp only[hs]
         exact ((ih _ _ _ _).bound h).skip (fun _=>rfl) rfl
       | true=>
         rw[if_pos rfl]
         show E' E F n ops pl ((O3 kd s (j7 E F n ops pl rest (k+1))).run fc r h y) _
         cases kd with
         | wr f=>
           show E' E F n ops pl (ob .bad (fun p=>sh h ((j7 E F n ops pl rest (k+1)).run fc (s p.1 r) p.2 y)) (f r h)) _
           cases hf:f r h with
           | none=>trivial
           | some p=>
             simp only[hk.2 call r h y.rc o p rfl hf,hs]
             exact ((ih _ _ _ _).bound h).skip (fun _=>rfl) rfl
         | call g args=>
           show E' E F n ops pl (j3.rec (motive:=fun _=>DO F.T) (fun v h'=>sh h ((j7 E F n ops pl rest (k+1)).run fc (s v r) h' y)) (fun _ _=> .bad) (fun _ _=> .bad) (fc g (args r) h)) _
           cases hc:fc g (args r) h with
           | fail _ _=>trivial
           | panic _ _=>trivial
           | ret v h'=>
             simp only[hk.2 call r h y.rc o rfl,(hle _ _ _).1 v h' hc,n8,hs]
             exact ((ih _ _ _ _).bound h).skip (fun _=>rfl) rfl
         | vV f=>
           show E' E F n ops pl (Ah.rec (motive:=fun _=>DO F.T) (fun v h'=>sh h ((j7 E F n ops pl rest (k+1)).run fc (s v r) h' y)) (fun _=> .bad) (fun _=> .bad) (fun _ _=> .bad) (fun _ _=> .bad) (f fc r h y.rc)) _
           have h2:=hk.2 fc call hle r h y.rc o rfl
           cases hf:f fc r h y.rc with
           | val v h'=>
             rw[hf] at h2
             have h2:dA E call (fC F n r) h y.rc o= .val v h':=h2
             simp only[h2,hs]
             exact ((ih _ _ _ _).bound h).skip (fun _=>rfl) rfl
           | _=>trivial
         | _=>trivial
     | false=>
       rw[eI,KH hn,if_neg (by simp)]
       cases hw:cJ ops (fC F n r) o with
       | false=>
         rw[if_neg (by simp)]
         show E' E F n ops pl ((j7 E F n ops pl rest k).run fc (s AV.undef r) h y) _
         simp only[hs]
         exact (ih _ _ _ _).skip (fun _=>rfl) rfl
       | true=>
         rw[if_pos rfl]
         show E' E F n ops pl ((O4 k (lg pl.bP pl.an i+1 - k) kd s (j7 E F n ops pl rest k)).run fc r h y) _
         cases kd with
         | JE g=>
           simp only[hk r,hs]
           exact (ih _ _ _ _).skip (fun _=>rfl) rfl
         | hG f=>
           show E' E F n ops pl (ob .bad (fun v=>(j7 E F n ops pl rest k).run fc (s v r) h y) (f r)) _
           cases hf:f r with
           | none=>trivial
           | some v=>
             simp only[hk r v hf,hs]
             exact (ih _ _ _ _).skip (fun _=>rfl) rfl
         | red f=>
           show E' E F n ops pl (ob .bad (fun v=>GM ⟨k,_,none,fun h'=>ob false (fun v'=>DC 20 v' v) (f r h')⟩ ((j7 E F n ops pl rest k).run fc (s v r) h y)) (f r h)) _
           cases hf:f r h with
           | none=>trivial
           | some v=>
             rcases hk r h v hf with q0 | ⟨q0,q1⟩
             · simp only[q0,hs]
               exact (ih _ _ _ _).X8 rfl rfl rfl fun h' _=>rfl
             simp only[q0,q1,hs]
             refine (ih _ _ _ _).X8 rfl rfl rfl fun h' e=>?_
             have e:ob false (fun v'=>DC 20 v' v) (f r h')=true:=e
             cases hf':f r h' with
             | none=>rw[hf'] at e;cases e
             | some v'=>
               rw[hf'] at e
               rcases hk r h' v' hf' with q2 | ⟨_,q3⟩
               · rw[q0] at q2;cases q2
               simp only[kf,gS,q3]
               exact KI 20 v' v e
         | tY f=>
           obtain ⟨h3,h4,h5⟩:=hk
           show E' E F n ops pl (ob .bad (fun p=>ob .bad (fun h'=>GM ⟨k,_,some h.nx,fun O5=>ob false (fun o=>aM.same o p.1) (O5.get h.nx)⟩ ((j7 E F n ops pl rest k).run fc (s (p.2 h.nx) r) h' y)) (h.new p.1)) (f r)) _
           cases hf:f r with
           | none=>trivial
           | some p=>
             obtain ⟨obj,mk⟩:=p
             show E' E F n ops pl (ob .bad (fun h'=>GM ⟨k,_,some h.nx,fun O5=>ob false (fun o=>aM.same o obj) (O5.get h.nx)⟩ ((j7 E F n ops pl rest k).run fc (s (mk h.nx) r) h' y)) (h.new obj)) _
             cases hh:h.new obj with
             | none=>trivial
             | some h'=>
               simp only[h3,h4,h5 r _ hf,hh,hs]
               refine (ih _ _ _ _).X8 rfl rfl rfl fun O5 e=>?_
               have e:ob false (fun o=>aM.same o obj) (O5.get h.nx)=true:=e
               cases hf':O5.get h.nx with
               | none=>rw[hf'] at e;cases e
               | some o'=>
                 rw[hf'] at e
                 simp only[kf,hf']
                 exact e
         | _=>trivial
theorem T6 {fc call:bq} (hle:lq fc call) {ts:List AV} {h h':au} {rc:RC} {dst:Option Tmp} {c:Call} {ty:TypeId} {pos:String} {after:Array Edge} {guard:Option (Nat×Bool)} {v:AV} (e:dA E fc ts h rc ⟨dst,.call c,ty,pos,after,guard⟩= .panic v h'):
 dA E call ts h rc ⟨dst,.call c,ty,pos,after,guard⟩= .panic v h':=by
 obtain ⟨cR,args,aT⟩:=c
 cases cR with
 | builtin b=>
   cases b<;>simp only[dA] at e<;>(try (simp at e;done))<;>(split at e<;>(try (simp at e;done))<;>(try (split at e<;>simp at e)))
 | value f=>
   simp only[dA] at e ⊢
   split at e
   · split at e
     · split at e<;>simp at e
     · split at e
       · simp at e
       · rename_i hc
         simp at e;obtain ⟨rfl,rfl⟩:=e
         simp only[(hle _ _ _).2 _ _ hc]
       · simp at e
   · simp at e
 | invoke x name=>
   simp only[dA] at e ⊢
   split at e
   · split at e
     · split at e
       · simp at e
       · rename_i hc
         simp at e;obtain ⟨rfl,rfl⟩:=e
         simp only[(hle _ _ _).2 _ _ hc]
       · simp at e
     · simp at e
   · simp at e
theorem qn.snoc {ops:Array Oper} {pl:nk} {c:List QH} {t:List Step} (h:qn E ops pl c t) {x:Step} (hs:∀h,kf E ops x h=true) (hm:madeOf x.kind=none):qn E ops pl c (t++[x]):=by
 induction h with
 | nil=>exact .skip hs hm .nil
 | skip a b _ ih=>exact .skip a b ih
 | X8 a b d e _ ih=>exact .X8 a b d e ih
theorem X9 (hn:n≤F.N) {fc call:bq} (hle:lq fc call) (ops:Array Oper) (pl:nk) (r:F.T) (h:au) (y:Y):
 tC E F n (XL E F n ops pl fc r h y) (match dc E call ops pl.order 0 ⟨fC F n r,h,y.ds,y.rc⟩ with
  | .ok tr hs s'=>if rT E ops pl tr hs then .ok .normal s' else .fail "still" (ops[0]?)
  | .fail why o=>match CZ E call ops ⟨fC F n r,h,y.ds,y.rc⟩ pl with
    | some (v,s2)=> .ok (.panic v) s2
    | none=> .fail why o):=by
 unfold XL
 split
 · trivial
 rename_i i front Xq
 split
 · rename_i tr hs r1 h1 y1 dst c ty pos after guard hd ho
   split
   · rename_i v h' Mh S6
     split
     · rename_i hl
       have hk:=DL (E:=E) hn hle ops pl front.reverse 0 r h y
       rw[hd] at hk
       obtain ⟨Ml,e1,e2⟩:=hk
       have S2:pl.order=front.reverse++[i]:=by
        have:=congrArg List.reverse Xq
        simpa using this
       have aey:=T6 hle S6
       have Qs:=Mh
       simp only[Bool.and_eq_true] at Qs
       obtain ⟨why,q,e3⟩:=Av ho Qs.1.1 front.reverse 0 _ e1 Qs.1.2 aey
       rw[S2,e3]
       have S7:CZ E call ops ⟨fC F n r,h,y.ds,y.rc⟩ pl=some (v,⟨fC F n r1,h',y1.ds,y1.rc⟩):=by
        unfold CZ
        rw[Xq]
        simp only[e1,ho,Mh,if_true,aey]
        rw[if_pos (DK (e2.snoc (fun _=>rfl) rfl) hl)]
       simp only[S7]
       exact ⟨by simp,rfl⟩
     · trivial
   · trivial
 · trivial
theorem T7 (hn:n≤F.N) {fc call:bq} (hle:lq fc call) (ops:Array Oper) (r:F.T) (h:au) (y:Y):
 tC E F n ((O7 E F n ops).run fc r h y) (yn E call ops ⟨fC F n r,h,y.ds,y.rc⟩):=by
 unfold O7 yn
 rw[Tt]
 cases tX E ops with
 | none=>trivial
 | some pl=>
   show tC E F n (DO.rec (motive:=fun _=>FO F.T) (fun tr hs r' h' y'=>bc (si tr hs) (.Kr r' h' y') .bad) (XL E F n ops pl fc r h y) ((j7 E F n ops pl pl.order 0).run fc r h y)) _
   have:=DL (E:=E) hn hle ops pl pl.order 0 r h y
   cases hd:(j7 E F n ops pl pl.order 0).run fc r h y with
   | bad=>exact X9 hn hle ops pl r h y
   | ok tr hs r' h' y'=>
     rw[hd] at this
     obtain ⟨Ml,h1,h2⟩:=this
     show tC E F n (bc (si tr hs) (.Kr r' h' y') .bad) _
     cases hl:si tr hs with
     | false=>trivial
     | true=>
       simp only[h1]
       rw[if_pos (DK h2 hl)]
       rfl
end Go.Ab.Fa
end
section
namespace Go.Ab.Fa
variable {E:Env} {F:RF} {n:Nat}
theorem KJ {fc call:bq} (hle:lq fc call) {f:Operand} {ps:Array Tmp} {as bd:Code} {s:St} {e:lY} {s':St} (h:oF E fc f ps as bd s= .ok e s'):oF E call f ps as bd s= .ok e s':=by
 unfold oF at h ⊢
 split at h
 case h_2=>cases h
 rename_i g first captured hv
 split at h
 case h_2=>cases h
 rename_i dn h1 ds1 ho
 split at h
 case h_2=>cases h
 rename_i h2 hn
 cases hc:fc (.fn g) (first++[.tT h1.nx]++captured) h2 with
 | ret v h3=>rw[hc] at h;rw[(hle _ _ _).1 _ _ hc];exact h
 | panic v h3=>rw[hc] at h;rw[(hle _ _ _).2 _ _ hc];exact h
 | fail why q=>rw[hc] at h;cases h
theorem QS {call:bq} {f:Operand} {ps:Array Tmp} {as bd:Code} {s:St} {e:lY} {s':St} (h:oF E call f ps as bd s= .ok e s'):s'.ts=s.ts:=by
 unfold oF at h
 split at h
 case h_2=>cases h
 split at h
 case h_2=>cases h
 split at h
 case h_2=>cases h
 split at h
 · split at h
   · cases h
   · split at h
     · simp only[Out.ok.injEq] at h;rw[←h.2]
     · cases h
   · cases h
 · simp only[Out.ok.injEq] at h;rw[←h.2]
 · cases h
theorem T8 {o:FO F.T} {out:Out} (h:tC E F n o out) {k:F.T→au→Y→FO F.T} {g:St→Out} (hk:∀r h y,tC E F n (k r h y) (g ⟨fC F n r,h,y.ds,y.rc⟩)):
 tC E F n (fo k .jmp .bad o) (match (generalizing:=false) out with | .ok .normal s'=>g s' | r=>r):=by
 cases o with
 | Kr r h' y=>rw[show out=_ from h];exact hk r h' y
 | jmp e r h' y=>
   obtain ⟨h1,h2⟩:=h
   rw[h2]
   cases e with
   | normal=>exact absurd rfl h1
   | _=>exact ⟨by simp,rfl⟩
 | bad=>trivial
theorem mI (hn:n≤F.N) {fc call:bq} (hle:lq fc call):∀(c:Code) (m:Nat) (r:F.T) (h:au) (y:Y),
 tC E F n ((n9 E F n c).run m fc r h y) (exec E call m c ⟨fC F n r,h,y.ds,y.rc⟩)
 | .skip,m,r,h,y=>by cases m with
   | zero=>trivial
   | succ m=>exact rfl
 | .label _,m,r,h,y=>by cases m with
   | zero=>trivial
   | succ m=>exact rfl
 | .ret,m,r,h,y=>by cases m with
   | zero=>trivial
   | succ m=>exact ⟨by simp,rfl⟩
 | .exit id,m,r,h,y=>by cases m with
   | zero=>trivial
   | succ m=>exact ⟨by simp,rfl⟩
 | .region _ ops draw,m,r,h,y=>by
   cases m with
   | zero=>cases draw<;>trivial
   | succ m=>cases draw with
     | true=>exact T7 hn hle ops r h y
     | false=>exact DJ hn hle ops ops.toList r h y
 | .seq a b,m,r,h,y=>by cases m with
   | zero=>trivial
   | succ m=>
     have h1:=mI hn hle a m r h y
     have h2:=mI hn hle b m
     exact T8 h1 (g:=fun s'=>exec E call m b s') h2
 | .cond x a b,m,r,h,y=>by
   have ha:=mI hn hle a
   have hb:=mI hn hle b
   show tC E F n (C.run (wO E F n x (fun g=>⟨fun m call r h y=>nS .bad (fun i=>kg (fun t=>bc t ((n9 E F n a).run i call r h y) ((n9 E F n b).run i call r h y)) .bad (g r)) m⟩) ⟨fun _ _ _ _ _=> .bad⟩) m fc r h y) _
   rcases bY E F n x (fun g=>(⟨fun m call r h y=>nS .bad (fun i=>kg (fun t=>bc t ((n9 E F n a).run i call r h y) ((n9 E F n b).run i call r h y)) .bad (g r)) m⟩:C F.T)) ⟨fun _ _ _ _ _=> .bad⟩ with hw | ⟨g,hw,hg⟩<;>rw[hw]
   · trivial
   cases m with
   | zero=>trivial
   | succ m=>
     show tC E F n (kg (fun t=>bc t ((n9 E F n a).run m fc r h y) ((n9 E F n b).run m fc r h y)) .bad (g r)) _
     rw[exec]
     simp only[hg]
     cases g r with
     | bool t=>cases t with
       | true=>exact ha m r h y
       | false=>exact hb m r h y
     | _=>trivial
 | .block id b,m,r,h,y=>by cases m with
   | zero=>trivial
   | succ m=>
     have hb:=mI hn hle b m r h y
     show tC E F n (fo .Kr (fun e r' h' y'=>TC (fun j=>bc (Nat.beq j id) (.Kr r' h' y') (.jmp e r' h' y')) (.jmp e r' h' y') e) .bad ((n9 E F n b).run m fc r h y)) _
     rw[exec]
     cases hr:(n9 E F n b).run m fc r h y with
     | bad=>trivial
     | Kr r' h' y'=>
       rw[hr] at hb
       have hb:exec E call m b _= .ok .normal ⟨fC F n r',h',y'.ds,y'.rc⟩:=hb
       rw[hb];exact rfl
     | jmp e r' h' y'=>
       rw[hr] at hb
       obtain ⟨h1,h2⟩:=hb
       rw[h2]
       cases e with
       | normal=>exact absurd rfl h1
       | exit j=>
         show tC E F n (bc (Nat.beq j id) (.Kr r' h' y') (.jmp (.exit j) r' h' y')) (if j=id then _ else _)
         cases hj:Nat.beq j id with
         | true=>rw[if_pos (oK hj)];exact rfl
         | false=>rw[if_neg (by intro e;rw[e,Nat.beq_refl] at hj;cases hj)];exact ⟨by simp,rfl⟩
       | ret=>exact ⟨by simp,rfl⟩
       | panic v=>exact ⟨by simp,rfl⟩
 | .loop b,m,r,h,y=>by
   have hb:=mI hn hle b
   show tC E F n (TD (n9 E F n b) m fc r h y) _
   induction m generalizing r h y with
   | zero=>trivial
   | succ m ih=>
     show tC E F n (fo (fun r' h' y'=>TD (n9 E F n b) m fc r' h' y') .jmp .bad ((n9 E F n b).run m fc r h y)) _
     exact T8 (hb m r h y) (g:=fun s'=>exec E call m (.loop b) s') ih
 | .rangeFunc f ps as bd,m,r,h,y=>by
   show tC E F n ((XM (Ib E F n f ps as bd)).run m fc r h y) _
   cases m with
   | zero=>trivial
   | succ m=>
     show tC E F n ((Ib E F n f ps as bd).run fc r h y) (oF E call f ps as bd ⟨fC F n r,h,y.ds,y.rc⟩)
     unfold Ib
     rcases bY E F n f (fun _=>(⟨fun call r h y=>aae r (oF E call f ps as bd ⟨fC F n r,h,y.ds,y.rc⟩)⟩:I F.T)) ⟨fun _ _ _ _=> .bad⟩ with hw | ⟨g,hw,_⟩<;>rw[hw]
     · trivial
     simp only
     cases hr:oF E fc f ps as bd ⟨fC F n r,h,y.ds,y.rc⟩ with
     | fail _ _=>trivial
     | ok e s=>
       rw[KJ hle hr]
       have ht:=QS hr
       obtain ⟨ts,hh,ds,rc⟩:=s
       simp only at ht
       subst ht
       cases e with
       | normal=>exact rfl
       | _=>exact ⟨by simp,rfl⟩
 | .scope b,m,r,h,y=>by cases m with
   | zero=>trivial
   | succ m=>exact mI hn hle b m r h y
 | .goto _,m,r,h,y=>trivial
 | .refuse _,m,r,h,y=>trivial
theorem yP:∀(l:List ResultVar) (r:F.T) (h:au) (vs:List AV),(AH E F n l).f r h=some vs→lD E h (fC F n r) l=some vs
 | [],r,h,vs,e=>e
 | .tmp t::rest,r,h,vs,e=>by
   rw[AH] at e
   obtain ⟨g,h1,h2⟩:=Ig F n t (fun g=>wW (AH E F n rest) fun k=>(⟨fun r h=>ob none (fun vs=>some (g r::vs)) (k r h)⟩:W (F.T→au→Option (List AV))))
   rw[h1] at e
   obtain ⟨rY,h3,h4⟩:=hD (show ob none (fun vs=>some (g r::vs)) ((AH E F n rest).f r h)=some vs from e)
   rw[lD]
   simp only[h2,yP rest r h rY h3]
   exact h4
 | .cell a t::rest,r,h,vs,e=>by
   rw[AH] at e
   obtain ⟨g,h1,h2⟩:=Ig F n a (fun g=>wW (AH E F n rest) fun k=>(⟨fun r h=>ob none (fun v=>ob none (fun vs=>some (v::vs)) (k r h)) (bh E h t (g r))⟩:W (F.T→au→Option (List AV))))
   rw[h1] at e
   obtain ⟨v,h3,h4⟩:=hD (show ob none (fun v=>ob none (fun vs=>some (v::vs)) ((AH E F n rest).f r h)) (bh E h t (g r))=some vs from e)
   obtain ⟨rY,h5,h6⟩:=hD h4
   rw[lD]
   simp only[h2,h3,yP rest r h rY h5]
   exact h6
def BOk (E:Env) (rs:List ResultVar) (b:BO) (out:Out):Prop:=match b with
 | .fin res h y=>∃e ts,(e= .normal∨e= .ret)∧out= .ok e ⟨ts,h,y.ds,y.rc⟩∧∀h' vs,res h'=some vs→lD E h' ts rs=some vs
 | .pan v res h y=>∃ts,out= .ok (.panic v) ⟨ts,h,y.ds,y.rc⟩∧∀h' vs,res h'=some vs→lD E h' ts rs=some vs
 | .bad=>True
theorem KL {fc call:bq} (hle:lq fc call) (F:RF) (fn:Func) (hn:fn.ntmps≤F.N) (b:Code) (fuel:Nat) (args:List AV) (h:au) (rc:RC):
 BOk E fn.results.toList ((TE E F fn.ntmps fn b).run fuel fc args h rc) (oW E call fuel fn b args h rc):=by
 show BOk E _ (bc (Nat.ble (jO args) fn.ntmps)
  (fo (fun r h' y=> .fin ((AH E F fn.ntmps fn.results.toList).f r) h' y) (fun e r h' y=>lY.rec (motive:=fun _=>BO) .bad (fun _=> .bad) (.fin ((AH E F fn.ntmps fn.results.toList).f r) h' y) (fun v=> .pan v ((AH E F fn.ntmps fn.results.toList).f r) h' y) e) .bad
   ((n9 E F fn.ntmps b).run fuel fc (Sq F args F.z 0) h ⟨[],rc⟩)) .bad) _
 cases hl:Nat.ble (jO args) fn.ntmps with
 | false=>trivial
 | true=>
   have hl:=gd hl
   rw[gD] at hl
   have:=mI (E:=E) hn hle b fuel (Sq F args F.z 0) h ⟨[],rc⟩
   rw[OV F fn.ntmps hn args hl] at this
   rw[j8]
   unfold oW
   cases hr:(n9 E F fn.ntmps b).run fuel fc (Sq F args F.z 0) h ⟨[],rc⟩ with
   | bad=>trivial
   | Kr r h' y=>
     rw[hr] at this
     exact ⟨.normal,_,.inl rfl,this,fun O5 vs e=>yP _ r O5 vs e⟩
   | jmp e r h' y=>
     rw[hr] at this
     obtain ⟨h1,h2⟩:=this
     cases e with
     | normal=>exact absurd rfl h1
     | exit _=>trivial
     | ret=>exact ⟨.ret,_,.inr rfl,h2,fun O5 vs e=>yP _ r O5 vs e⟩
     | panic v=>exact ⟨_,h2,fun O5 vs e=>yP _ r O5 vs e⟩
theorem KM {fc call:bq} (hle:lq fc call) (f:FuncId) (fuel:Nat) (args:List AV) (h:au) (rc:RC):
 (Bu E f).run fuel fc args h rc= .bad∨∃fn b,E.P.funcs[f]? =some fn∧fn.body=some b∧BOk E fn.results.toList ((Bu E f).run fuel fc args h rc) (oW E call fuel fn b args h rc):=by
 unfold Bu
 rw[XE]
 cases hf:E.P.funcs[f]? with
 | none=>exact .inl rfl
 | some fn=>
   simp only
   cases hb:fn.body with
   | none=>exact .inl rfl
   | some b=>
     refine .inr ⟨fn,b,rfl,hb,?_⟩
     simp only
     cases h1:Nat.ble fn.ntmps 64 with
     | true=>exact KL hle rf2 fn (gd h1) b fuel args h rc
     | false=>cases h2:Nat.ble fn.ntmps 512 with
       | true=>exact KL hle rf3 fn (gd h2) b fuel args h rc
       | false=>trivial
theorem uI {fc call:bq} (hle:lq fc call) {fuel:Nat} {c:Code} {s:St} {e:lY} {s':St} (h:O9 E fc fuel c s= .ok e s'):exec E call fuel c s= .ok e s':=by
 have key:∀F:RF,s.ts.length≤F.N→O8 E F fc fuel c s= .ok e s'→exec E call fuel c s= .ok e s':=by
  intro F hn hx
  have:=mI (E:=E) hn hle c fuel (Sq F s.ts F.z 0) s.h ⟨s.ds,s.rc⟩
  rw[OV F s.ts.length hn s.ts (Nat.le_refl _),Nat.sub_self,List.replicate_zero,List.append_nil] at this
  unfold O8 at hx
  cases hr:(n9 E F s.ts.length c).run fuel fc (Sq F s.ts F.z 0) s.h ⟨s.ds,s.rc⟩ with
  | bad=>rw[hr] at hx;cases hx
  | Kr r h' y=>rw[hr] at hx this;rw[show exec E call fuel c s=_ from this];exact hx
  | jmp e' r h' y=>rw[hr] at hx this;rw[show exec E call fuel c s=_ from this.2];exact hx
 unfold O9 at h
 cases h1:Nat.ble s.ts.length 64 with
 | true=>rw[h1] at h;exact key rf2 (gd h1) h
 | false=>cases h2:Nat.ble s.ts.length 512 with
   | true=>rw[h1,h2] at h;exact key rf3 (gd h2) h
   | false=>rw[h1,h2] at h;cases h
noncomputable def Io (E:Env) (call:bq) (fuel:Nat) (g:FuncId) (as:List AV) (h:au) (rc:RC):Option (au×RC):=match E.P.funcs[g]? with
 | none=>none
 | some fg=>match fg.body with
   | none=>none
   | some bg=>match oW E call fuel fg bg as h rc with
     | .ok .normal s'=>if s'.ds.isEmpty&&(lD E s'.h s'.ts fg.results.toList).isSome then some (s'.h,s'.rc) else none
     | .ok .ret s'=>if s'.ds.isEmpty&&(lD E s'.h s'.ts fg.results.toList).isSome then some (s'.h,s'.rc) else none
     | _=>none
theorem T9 {fc call:bq} (hle:lq fc call) {fuel:Nat} {g:FuncId} {as:List AV} {h:au} {rc:RC} {p:au×RC} (e:iL E fc fuel g as h rc=some p):Io E call fuel g as h rc=some p:=by
 unfold iL at e
 rcases KM (E:=E) hle g fuel as h rc with h1 | ⟨fn,b,h1,h2,h3⟩
 · rw[h1] at e;cases e
 · unfold Io
   rw[h1];simp only;rw[h2];simp only
   cases hr:(Bu E g).run fuel fc as h rc with
   | bad=>rw[hr] at e;cases e
   | pan v res h' y=>rw[hr] at e;cases e
   | fin res h' y=>
     rw[hr] at e h3
     obtain ⟨x,ts,h4,h5,h6⟩:=h3
     obtain ⟨h7,e1⟩:=gF (show bc y.ds.isEmpty (ob none (fun _=>some (h',y.rc)) (res h')) none=some p from e)
     obtain ⟨vs,h8,e2⟩:=hD e1
     rw[h5]
     rcases h4 with rfl | rfl
     · simp only[h7,h6 h' vs h8,Option.isSome_some,Bool.and_self,if_true];exact e2
     · simp only[h7,h6 h' vs h8,Option.isSome_some,Bool.and_self,if_true];exact e2
theorem mJ {f g:FuncId→List AV→au→RC→Option (au×RC)} (hfg:∀k as h rc p,f k as h rc=some p→g k as h rc=some p):∀(ds:List rR) (p:Option AV) (h:au) {q:Option AV×au},dp f ds p h=some q→dp g ds p h=some q
 | [],p,h,q,e=>by cases p<;>exact e
 | .col r::ds,p,h,q,e=>by
   rw[dp] at e ⊢
   split at e
   · exact mJ hfg ds p _ e
   · cases e
 | .call k as::ds,none,h,q,e=>by
   rw[dp] at e ⊢
   cases hf:f k as h .no with
   | none=>rw[hf] at e;cases e
   | some p=>rw[hf] at e;rw[hfg _ _ _ _ _ hf];obtain ⟨h',Xt⟩:=p;exact mJ hfg ds none h' e
 | .call k as::ds,some v,h,q,e=>by
   rw[dp] at e ⊢
   cases hf:f k as h (.jM v) with
   | none=>rw[hf] at e;cases e
   | some p=>
     rw[hf] at e;rw[hfg _ _ _ _ _ hf];obtain ⟨h',Xt⟩:=p
     cases Xt with
     | jM w=>exact mJ hfg ds _ h' e
     | done=>exact mJ hfg ds _ h' e
     | _=>cases e
theorem QT {fc call:bq} (hle:lq fc call) (fuel:Nat) (l:Nat) (args:List AV) (h:au):(∀v h',DD E fc fuel l args h= .ret v h'→wM E call fuel l args h= .ret v h')∧∀v h',DD E fc fuel l args h= .panic v h'→wM E call fuel l args h= .panic v h':=by
 have key:∀out:j3,(∀why o,out≠ .fail why o)→DD E fc fuel l args h=out→wM E call fuel l args h=out:=by
  intro out rh e
  unfold DD at e
  unfold wM
  split at e
  case h_2=>exact absurd e.symm (rh _ _)
  rename_i st pd ts ps as bd dn hg
  rw[hg]
  simp only
  by_cases ha:args.length=ps.length
  · rw[if_pos ha] at e ⊢
    split at e
    · rename_i s1 h1
      rw[uI hle h1]
      simp only
      split at e
      · rename_i pd ts2 ZP W6 bd2 dn2 hg2
        rw[hg2]
        simp only
        split at e
        · rename_i s2 h2;rw[uI hle h2];exact e
        · rename_i s2 h2;rw[uI hle h2];exact e
        · rename_i id s2 h2;rw[uI hle h2];exact e
        · rename_i v s2 h2;rw[uI hle h2];exact e
        · exact absurd e.symm (rh _ _)
      · exact absurd e.symm (rh _ _)
    · exact absurd e.symm (rh _ _)
    · exact absurd e.symm (rh _ _)
  · rw[if_neg ha] at e;exact absurd e.symm (rh _ _)
 exact ⟨fun v h' e=>key _ (by simp) e,fun v h' e=>key _ (by simp) e⟩
noncomputable def T_ (E:Env) (call:bq) (fuel:Nat) (fn:Func) (p:Option AV) (s:St):j3:=match dp (Io E call fuel) s.ds p s.h with
 | none=> .fail "unwind" none
 | some (some v,h')=> .panic v h'
 | some (none,h')=>match lD E h' s.ts fn.results.toList with
   | some vs=> .ret (iu vs) h'
   | none=> .fail "results" none
theorem M6 (d fuel:Nat) {f:FuncId} {fn:Func} {b:Code} (hf:E.P.funcs[f]? =some fn) (hb:fn.body=some b) (args:List AV) (h:au):
 g_ E (d+1) fuel (.fn f) args h=(match oW E (g_ E d fuel) fuel fn b args h .no with
  | .ok .normal s=>T_ E (g_ E d fuel) fuel fn none s
  | .ok .ret s=>T_ E (g_ E d fuel) fuel fn none s
  | .ok (.panic v) s=>T_ E (g_ E d fuel) fuel fn (some v) s
  | .ok (.exit _) _=> .fail "exit" none
  | .fail why o=> .fail (why++ " in " ++fn.name) o):=by
 rw[g_]
 simp only[hf,hb]
 rfl
theorem Pg {fc call:bq} (hle:lq fc call) {fuel:Nat} {fn:Func} {p:Option AV} {res:au→Option (List AV)} {ts:List AV} {h:au} {y:Y} (FE:∀h' vs,res h'=some vs→lD E h' ts fn.results.toList=some vs) {out:j3} (ho:∀why o,out≠ .fail why o)
 (e:Kx (p.elim (ob (.fail "results" none) (fun vs=>j3.ret (iu vs) h) (res h)) (fun v=> .panic v h)) (Kw E fc fuel p res h y.ds) y.ds=out):T_ E call fuel fn p ⟨ts,h,y.ds,y.rc⟩=out:=by
 unfold T_
 cases hd:y.ds with
 | nil=>
   rw[hd] at e
   cases p with
   | some v=>exact e
   | none=>
     have e:ob (.fail "results" none) (fun vs=>j3.ret (iu vs) h) (res h)=out:=e
     cases hr:res h with
     | none=>rw[hr] at e;exact absurd e.symm (ho _ _)
     | some vs=>
       rw[hr] at e
       simp only[dp,FE h vs hr]
       exact e
 | cons d ds=>
   rw[hd] at e
   have e:Kw E fc fuel p res h (d::ds)=out:=e
   unfold Kw at e
   cases hu:dp (iL E fc fuel) (d::ds) p h with
   | none=>rw[hu] at e;exact absurd e.symm (ho _ _)
   | some q=>
     rw[hu] at e
     have:=mJ (g:=Io E call fuel) (fun k as h rc p e=>T9 hle e) (d::ds) p h hu
     simp only[this]
     obtain ⟨q1,h'⟩:=q
     cases q1 with
     | some v=>exact e
     | none=>
       have e:ob (.fail "results" none) (fun vs=>j3.ret (iu vs) h') (res h')=out:=e
       cases hr:res h' with
       | none=>rw[hr] at e;exact absurd e.symm (ho _ _)
       | some vs=>rw[hr] at e;simp only[FE h' vs hr];exact e
theorem KN (fuel:Nat):∀d,lq (Bv E d fuel) (g_ E d fuel)
 | 0=>fun _ _ _=>⟨fun _ _ e=>(by cases e),fun _ _ e=>(by cases e)⟩
 | d+1=>by
   have ih:=KN fuel d
   intro g args h
   cases g with
   | Bh l=>exact QT ih fuel l args h
   | fn f=>
     have key:∀out:j3,(∀why o,out≠ .fail why o)→Bv E (d+1) fuel (.fn f) args h=out→g_ E (d+1) fuel (.fn f) args h=out:=by
      intro out ho e
      have e:bo (fun res h' y=>Kx (ob (.fail "results" none) (fun vs=>j3.ret (iu vs) h') (res h')) (Kw E (Bv E d fuel) fuel none res h' y.ds) y.ds)
       (fun v res h' y=>Kx (.panic v h') (Kw E (Bv E d fuel) fuel (some v) res h' y.ds) y.ds) (.fail "body" none) ((Bu E f).run fuel (Bv E d fuel) args h .no)=out:=e
      rcases KM (E:=E) ih f fuel args h .no with h1 | ⟨fn,b,h1,h2,h3⟩
      · rw[h1] at e;exact absurd e.symm (ho _ _)
      · rw[M6 d fuel h1 h2]
        cases hr:(Bu E f).run fuel (Bv E d fuel) args h .no with
        | bad=>rw[hr] at e;exact absurd e.symm (ho _ _)
        | fin res h' y=>
          rw[hr] at e h3
          obtain ⟨x,ts,h4,h5,h6⟩:=h3
          have:=Pg (E:=E) ih (fn:=fn) (p:=none) h6 ho e
          rw[h5]
          rcases h4 with rfl | rfl<;>exact this
        | pan v res h' y=>
          rw[hr] at e h3
          obtain ⟨ts,h5,h6⟩:=h3
          have:=Pg (E:=E) ih (fn:=fn) (p:=some v) h6 ho e
          rw[h5];exact this
     exact ⟨fun v h' e=>key _ (by simp) e,fun v h' e=>key _ (by simp) e⟩
theorem DM {d fuel:Nat} {f:FuncId} {args:List AV} {h h':au} {v:AV} (e:Bv E d fuel (.fn f) args h= .ret v h'):g_ E d fuel (.fn f) args h= .ret v h':=
 (KN fuel d _ _ _).1 v h' e
end Go.Ab.Fa
end
section
namespace Go.Ab
structure aiy (P:Program) (f:FuncId) (e:Array Value→Sem Value):Prop where
 at':∃fn,P.funcs[f]? =some fn∧(fn.name== "runtime.NumGoroutine")=false∧fn.body.isNone=true∧Extern.findNext fn=none∧Extern.find fn=some e
section
open Fa
noncomputable def l3 {R:Type} (f:AV→AV→AV→R) (d:R) (l:List AV):R:=
 List.rec (motive:=fun _=>R) d (fun a tl _=>List.rec (motive:=fun _=>R) d (fun b tl _=>List.rec (motive:=fun _=>R) d (fun c tl _=>List.rec (motive:=fun _=>R) (f a b c) (fun _ _ _=>d) tl) tl) tl) l
noncomputable def l2 {R:Type} (f:AV→AV→R) (d:R) (l:List AV):R:=
 List.rec (motive:=fun _=>R) d (fun a tl _=>List.rec (motive:=fun _=>R) d (fun b tl _=>List.rec (motive:=fun _=>R) (f a b) (fun _ _ _=>d) tl) tl) l
noncomputable def n3 (f:Nat→Nat→Nat→Option AV):List AV→Option AV:=
 l3 (fun a b c=>pJ (fun _ x=>pJ (fun _ y=>pJ (fun _ z=>l5 (fun x=>l5 (fun y=>l5 (fun z=>f x y z) none z) none y) none x) none c) none b) none a) none
end
open Fa
end Go.Ab
end
section
namespace Go.Ab
open Go.Maps Go.WideElems Go.RowKit Go.Proofs
section
open Fa
noncomputable def l1 {R:Type} (f:AV→R) (d:R) (l:List AV):R:=List.rec (motive:=fun _=>R) d (fun a tl _=>List.rec (motive:=fun _=>R) (f a) (fun _ _ _=>d) tl) l
end
open Fa
theorem OK.later {E:Env} {φ:Ph} {h:au} {w w':World} (ok:OK E φ h w) (b:Below w.heap.size w w'):OK E φ h w'∧Fr φ h w φ h w':=by
 have Fu:∀j p m,h.get j=some p→φ j=some m→m.g6<w.heap.size:=fun j p m hj hm=>by
  have E9:=ok.live j p m hj hm
  rcases Nat.lt_or_ge m.g6 w.heap.size with a | a
  · exact a
  · exfalso
    rw[Array.getElem?_eq_none a] at E9
    exact E9.absurd
 refine ⟨⟨ok.B6,ok.nx,ok.wN,fun i o l h1 h2=>?_,ok.inj⟩,⟨Ph.le_refl φ,fun _ _=>rfl,Nat.le_refl _,b.os,b.tape,b.output,b.size,fun c hc _=>b.block c hc,fun i o l h1 h2 h3=> .inr ⟨i,o,l,h1,h2,h3,rfl⟩⟩⟩
 rw[b.block _ (Fu i o l h1 h2)]
 exact ok.live i o l h1 h2
end Go.Ab
end
section
namespace Go.Ab
structure X_ where
 g:Nat
 k:IntKind
 ns:List Nat
 t:TypeId
def X_.cells (x:X_):List AV:=x.ns.map fun n=>AV.int x.k (Int.ofNat n)
noncomputable def mK (G:Nat):List X_→au
 | []=>⟨HT.nil,G,fun _=>none⟩
 | x::xs=>(mK G xs).put x.g (some (.cells x.cells x.t true))
theorem Pj (i:Nat) (G:Nat):(au.mk HT.nil G fun _=>none).get i=none:=by
 by_cases hi:i<262144
 · rw[au.wQ hi]
   rw[C6 hi,Ak,C5]
   simp only[HT.nil,Cz]
 · rw[au.rU hi]
theorem AL (G:Nat):∀l,(mK G l).nx=G
 | []=>rfl
 | _::xs=>AL G xs
theorem sm {G:Nat}:∀{l:List X_} {i:Nat} {o:aM},(mK G l).get i=some o→∃x∈l,x.g=i∧o= .cells x.cells x.t true
 | [],i,o,e=>by rw[mK,Pj] at e;cases e
 | x::xs,i,o,e=>by
   rw[mK] at e
   by_cases h:x.g=i
   · subst h
     rw[au.du] at e
     exact ⟨x,by simp,rfl,(Option.some.inj e).symm⟩
   · rw[au.b5 h] at e
     obtain ⟨y,hy,h1,h2⟩:=sm e
     exact ⟨y,by simp [hy],h1,h2⟩
def aeA (w:World) (x:X_):Prop:=∃C e fz,w.heap[x.g]? =some (.cells C e fz)∧C.toList=x.ns.map fun n=>Value.int x.k (Int.ofNat n)
def phG (G:Nat):Ph:=fun i=>if i<G then some ⟨i,0,0⟩ else none
theorem OK.begin {E:Env} {w:World} {l:List X_} (hl:∀x∈l,x.g<E.G∧aeA w x):OK E (phG E.G) (mK E.G l) w:=by
 refine ⟨fun i l' h=>?_,?_,fun g hg=>?_,fun i o l' h1 h2=>?_,fun i j o p l' m _ _ h3 h4 _ h5=>?_⟩
 · unfold phG at h;rw[AL];split at h
   · assumption
   · cases h
 · rw[AL];exact Nat.le_refl _
 · unfold phG;rw[if_pos hg]
 · obtain ⟨x,hx,rfl,rfl⟩:=sm h1
   obtain ⟨hg,C,e,⟨lo,hi⟩,hw,hC⟩:=hl x hx
   unfold phG at h2;rw[if_pos hg] at h2
   obtain rfl:=Option.some.inj h2
   refine ⟨C,e,lo,hi,hw,?_,?_,(fun h=>by cases h),fun _ _ _=>rfl⟩
   · have:C.size=x.ns.length:=by rw[←Array.length_toList,hC,List.length_map]
     simp [X_.cells,f',this]
   · intro k y hk
     simp only[X_.cells,List.getElem?_map,Option.map_eq_some_iff] at hk
     obtain ⟨n,hn,rfl⟩:=hk
     refine ⟨.int x.k (Int.ofNat n),?_,.int _ _⟩
     rw[Nat.zero_add,←Array.getElem?_toList,hC,List.getElem?_map,hn];rfl
 · unfold phG at h3 h4
   split at h3
   · split at h4
     · obtain rfl:=Option.some.inj h3
       obtain rfl:=Option.some.inj h4
       exact h5
     · cases h4
   · cases h3
noncomputable def yQ (o:j3):Bool:=j3.rec (motive:=fun _=>Bool) (fun v _=>Fa.kg (fun b=>b) false v) (fun _ _=>false) (fun _ _=>false) o
theorem By {o:j3} (h:yQ o=true):∃h',o= .ret (.bool true) h':=by
 cases o with
 | ret v h'=>
   cases v with
   | bool b=>exact ⟨h',by rw[show b=true from h]⟩
   | _=>cases h
 | panic v h'=>cases h
 | fail _ _=>cases h
end Go.Ab
end
section
namespace Go.Ab
variable {E:Env}
noncomputable def vG (E:Env) (call:bq) (fuel:Nat) (fn:Func) (p:Option AV) (s:St):j3:=match dp (iL E call fuel) s.ds p s.h with
 | none=> .fail "unwind" none
 | some (some v,h')=> .panic v h'
 | some (none,h')=>match lD E h' s.ts fn.results.toList with
   | some vs=> .ret (iu vs) h'
   | none=> .fail "results" none
noncomputable def Bz (E:Env) (call:bq) (fuel:Nat) (f:FuncId) (args:List AV) (h:au):j3:=match E.P.funcs[f]? with
 | none=> .fail "no function" none
 | some fn=>match fn.body with
   | none=> .fail ("no body " ++fn.name) none
   | some b=>match oW E call fuel fn b args h .no with
     | .ok .normal s=>vG E call fuel fn none s
     | .ok .ret s=>vG E call fuel fn none s
     | .ok (.panic v) s=>vG E call fuel fn (some v) s
     | .ok (.exit _) _=> .fail "exit" none
     | .fail why o=> .fail (why++ " in " ++fn.name) o
theorem qo (hE:lG E) (fuel:Nat) {call:bq} (ih:iN E call):(∀f args h v h',Bz E call fuel f args h= .ret v h'→mF E f args h v h')∧(∀f args h v h',Bz E call fuel f args h= .panic v h'→ON E f args h v h'):=by
 have key:∀(f:FuncId) (args:List AV) (h:au) (out:j3),Bz E call fuel f args h=out→(∀why q,out≠ .fail why q)→
  ∃fn c e s p,E.P.funcs[f]? =some fn∧fn.body=some c∧oW E call fuel fn c args h .no= .ok e s∧
   ((p=none∧(e= .normal∨e= .ret))∨∃v,p=some v∧e= .panic v)∧
   ((∃v h',out= .panic v h'∧dp (iL E call fuel) s.ds p s.h=some (some v,h'))∨
    ∃vs h',out= .ret (iu vs) h'∧dp (iL E call fuel) s.ds p s.h=some (none,h')∧lD E h' s.ts fn.results.toList=some vs):=by
  intro f args h out e eY
  unfold Bz at e
  split at e
  · exact absurd e.symm (eY _ _)
  rename_i fn hf
  split at e
  · exact absurd e.symm (eY _ _)
  rename_i c hb
  have fin:∀(p:Option AV) (s:St),vG E call fuel fn p s=out→
   ((∃v h',out= .panic v h'∧dp (iL E call fuel) s.ds p s.h=some (some v,h'))∨
    ∃vs h',out= .ret (iu vs) h'∧dp (iL E call fuel) s.ds p s.h=some (none,h')∧lD E h' s.ts fn.results.toList=some vs):=by
   intro p s hm
   unfold vG at hm
   split at hm
   · exact absurd hm.symm (eY _ _)
   · rename_i v h' hu;exact .inl ⟨v,h',hm.symm,hu⟩
   · rename_i h' hu
     split at hm
     · rename_i vs hv;exact .inr ⟨vs,h',hm.symm,hu,hv⟩
     · exact absurd hm.symm (eY _ _)
  split at e
  · rename_i s gT;exact ⟨fn,c,_,s,none,hf,hb,gT,.inl ⟨rfl,.inl rfl⟩,fin none s e⟩
  · rename_i s gT;exact ⟨fn,c,_,s,none,hf,hb,gT,.inl ⟨rfl,.inr rfl⟩,fin none s e⟩
  · rename_i v s gT;exact ⟨fn,c,_,s,some v,hf,hb,gT,.inr ⟨v,rfl,rfl⟩,fin (some v) s e⟩
  · exact absurd e.symm (eY _ _)
  · exact absurd e.symm (eY _ _)
 have run:∀(f:FuncId) (fn:Func) (c:Code) (args:List AV) (h:au) (e:lY) (s:St) (p p':Option AV) (h':au),E.P.funcs[f]? =some fn→fn.body=some c→oW E call fuel fn c args h .no= .ok e s→
  ((p=none∧(e= .normal∨e= .ret))∨∃v,p=some v∧e= .panic v)→dp (iL E call fuel) s.ds p s.h=some (p',h')→
  ∀(φ:Ph) (w:World) (vs:List Value),OK E φ h w→LR φ args vs→∀cs,∃φ' w' m' tmps todo,OK E φ' h' w'∧Fr φ h w φ' h' w'∧LR φ' s.ts tmps.toList∧
   ((p'=none∧m'= .returning)∨∃v v',p'=some v∧VR φ' v v'∧m'= .panicking [{v:=v',recovered:=false}])∧
   Steps E.P (lone (Frame.enter E.P f vs.toArray .normal) cs w) (lone {(bare f .normal).atR {tmps,defers:=[]} todo with mode:=m'} cs w'):=by
  intro f fn c args h e s p p' h' hf hb gT hp hu φ w vs ok hl cs
  obtain ⟨φ1,w1,a1,e1,x1,x2,x3,x4,x5,x6⟩:=(uw hE ih hf hb gT ok hl (kind:= .normal) (K:=fun _=>cs) ⟨rfl,fun fr hk=>by simp [tryRecover,show fr.kind= .normal from hk]⟩).is
  have Kf:cur (fun _=>cs) s.rc=cs:=by cases s.rc<;>rfl
  have Tf:cur (fun _=>cs) RC.no=cs:=rfl
  rw[Kf] at x6
  rw[Tf] at x6
  have hm:∃todo m,((p=none∧m= .returning)∨∃v v',p=some v∧VR φ1 v v'∧m= .panicking [{v:=v',recovered:=false}])∧
   Steps E.P (lone (Frame.enter E.P f vs.toArray .normal) cs w) (lone {(bare f .normal).atR a1 todo with mode:=m} cs w1):=by
   rcases hp with ⟨rfl,rfl | rfl⟩ | ⟨v,rfl,rfl⟩
   · cases x1;exact ⟨[],.returning,.inl ⟨rfl,rfl⟩,Steps.trans x6 (.one (stepR_end rfl))⟩
   · cases x1;obtain ⟨todo,hs⟩:=x6;exact ⟨_,.returning,.inl ⟨rfl,rfl⟩,Steps.trans hs (.one (stepR_ret rfl))⟩
   · cases x1 with
     | panic _ v' hv=>obtain ⟨todo,hs⟩:=x6;exact ⟨todo,_,.inr ⟨v,v',rfl,hv,rfl⟩,hs⟩
  obtain ⟨todo,m,hmp,tR⟩:=hm
  obtain ⟨φ2,w2,m2,Dr,f2,Te,hs2⟩:=kM hE ih s.ds hu (fr:={(bare f .normal).atR a1 todo with mode:=m}) (cs:=cs) x3 x2.ds (by
   rcases hmp with ⟨e,em⟩ | ⟨v,v',e,hv,em⟩
   · exact .inl ⟨e,em⟩
   · exact .inr ⟨v,v',e,hv,em⟩)
  exact ⟨φ2,w2,m2,a1.tmps,todo,Dr,x4.trans f2,x2.ts.mono f2.ext,Te,Steps.trans tR hs2⟩
 refine ⟨fun f args h v h' e=>?_,fun f args h v h' e=>?_⟩
 · obtain ⟨fn,c,e1,s,p,hf,hb,gT,hp,rh⟩:=key f args h _ e (by simp)
   rcases rh with ⟨v1,h1,he,_⟩ | ⟨vs1,h1,he,hu,FE⟩
   · simp at he
   · simp at he;obtain ⟨rfl,rfl⟩:=he
     intro φ w vs ok hl
     refine ⟨enters hE hf hb _ w,fun cs=>?_⟩
     obtain ⟨φ',w',m',tmps,todo,tc,fr,ht,hm,hs⟩:=run f fn c args h e1 s p none h' hf hb gT hp hu φ w vs ok hl cs
     obtain ⟨v',hv,iv⟩:=uv tc ht FE
     rcases hm with ⟨_,rfl⟩ | ⟨v,v'',e,_⟩
     · exact ⟨φ',w',v',_,hv,tc,fr,hs,rfl,rfl,rfl,rfl,fn,hf,iv⟩
     · simp at e
 · obtain ⟨fn,c,e1,s,p,hf,hb,gT,hp,rh⟩:=key f args h _ e (by simp)
   rcases rh with ⟨v1,h1,he,hu⟩ | ⟨vs1,h1,he,_⟩
   · simp at he;obtain ⟨rfl,rfl⟩:=he
     intro φ w vs ok hl
     refine ⟨enters hE hf hb _ w,fun cs=>?_⟩
     obtain ⟨φ',w',m',tmps,todo,tc,fr,ht,hm,hs⟩:=run f fn c args h e1 s p (some v) h' hf hb gT hp hu φ w vs ok hl cs
     rcases hm with ⟨e,_⟩ | ⟨v2,v',e,hv,rfl⟩
     · simp at e
     · simp at e;subst e
       exact ⟨φ',w',v',_,hv,tc,fr,hs,rfl,rfl,rfl,fn,hf⟩
   · simp at he
namespace Fa
abbrev KO:=FuncId→List AV→au→Option (AV×au)
def Ip (E:Env) (M:KO):Prop:=∀f args h v h',M f args h=some (v,h')→mF E f args h v h'
noncomputable def KP (nx:Nat) (l:List (Nat×aM)):au:=List.rec (motive:=fun _=>au) ⟨HT.nil,nx,fun _=>none⟩ (fun x _ h=>h.put x.1 (some x.2)) l
theorem GP {nx:Nat}:∀{l:List (Nat×aM)} {i:Nat} {o:aM},(KP nx l).get i=some o→(i,o)∈l
 | [],i,o,e=>by
   have e:(au.mk HT.nil nx fun _=>none).get i=some o:=e
   by_cases hi:i<262144
   · rw[au.wQ hi] at e
     have e:(hp i).get HT.nil=some o:=e
     rw[C6 hi,Ak,C5] at e
     simp only[HT.nil,Cz] at e
     cases e
   · rw[au.rU hi] at e;cases e
 | x::xs,i,o,e=>by
   have e:((KP nx xs).put x.1 (some x.2)).get i=some o:=e
   by_cases h:x.1=i
   · subst h
     rw[au.du] at e
     cases e;simp
   · rw[au.b5 h] at e
     exact List.mem_cons_of_mem _ (GP e)
structure Ent where
 f:FuncId
 args:List AV
 nx:Nat
 K:List (Nat×aM)
 v:AV
 nx':Nat
 K':List (Nat×aM)
end Fa
end Go.Ab
end
section
namespace Go.Ab
variable {E:Env}
theorem LR.yR {φ φ':Ph} {xs:List AV} {ys zs:List Value} (h:LR φ xs ys) (h':LR φ' xs zs) (ih:∀(i:Nat) (x:AV) (y z:Value),xs[i]? =some x→ys[i]? =some y→zs[i]? =some z→VR φ x z):LR φ xs zs:=by
 refine ⟨h'.1,fun i x z hx hz=>?_⟩
 have hi:i<xs.length:=(List.getElem?_eq_some_iff.1 hx).1
 have:i<ys.length:=by rw[←h.1];exact hi
 exact ih i x ys[i] z hx (by simp [this]) hz
theorem VR.back {φ φ':Ph} (hle:φ.le φ') {x:AV} {y:Value} (h:VR φ x y):∀{z:Value},VR φ' x z→VR φ x z:=by
 induction h with
 | bool b=>intro z h;cases h;exact .bool b
 | int k n=>intro z h;cases h;exact .int k n
 | str s=>
   intro z h
   generalize he:AV.str s.data.toList=q at h
   cases h with
   | str s'=>exact .str s'
   | _=>cases he
 | gQ=>intro z h;cases h;exact .gQ
 | ptr o h=>intro z h';cases h' with | ptr _ h'=>rw[hle _ _ h] at h';cases h';exact .ptr o h
 | aH=>intro z h;cases h;exact .aH
 | slice o len cap op h=>intro z h';cases h' with | slice _ _ _ _ h'=>rw[hle _ _ h] at h';cases h';exact .slice o len cap op h
 | eN a cap=>intro z h;cases h;exact .eN _ _
 | eF=>intro z h;cases h;exact .eF
 | map h=>intro z h';cases h' with | map h'=>rw[hle _ _ h] at h';cases h';exact .map h
 | func f a b a' b' la lb ha hb iha ihb=>
   intro z h
   obtain ⟨c,d,rfl,hc,hd⟩:=VR.C3 h
   have h1:LR φ a c.toList:=LR.yR (ys:=a'.toList) ⟨by simpa using la,fun i x y p q=>ha i x y p (by simpa using q)⟩ hc fun i x y z p q r=>iha i x y p (by simpa using q) (hc.2 i x z p r)
   have h2:LR φ b d.toList:=LR.yR (ys:=b'.toList) ⟨by simpa using lb,fun i x y p q=>hb i x y p (by simpa using q)⟩ hd fun i x y z p q r=>ihb i x y p (by simpa using q) (hd.2 i x z p r)
   have:=VR.Sz f h1 h2
   simpa using this
 | nilFunc=>intro z h;cases h;exact .nilFunc
 | yield h=>intro z h';cases h' with | yield h'=>rw[hle _ _ h] at h';cases h';exact .yield h
 | iface t v v' h ih=>intro z h';cases h' with | iface _ _ _ h'=>exact .iface t v _ (ih h')
 | nilIface=>intro z h;cases h;exact .nilIface
 | agg cs jL hl h ih=>
   intro z h'
   obtain ⟨d,rfl,hd⟩:=VR.kL h'
   have h1:LR φ cs d.toList:=LR.yR (ys:=jL.toList) ⟨by simpa using hl,fun i x y p q=>h i x y p (by simpa using q)⟩ hd fun i x y z p q r=>ih i x y p (by simpa using q) (hd.2 i x z p r)
   have:=VR.Qo h1
   simpa using this
 | any v h=>intro z h';cases h' with | any _ h'=>exact .any _ h'
 | tuple cs jL hl h ih=>
   intro z h'
   obtain ⟨d,rfl,hd⟩:=VR.Gn h'
   have h1:LR φ cs d.toList:=LR.yR (ys:=jL.toList) ⟨by simpa using hl,fun i x y p q=>h i x y p (by simpa using q)⟩ hd fun i x y z p q r=>ih i x y p (by simpa using q) (hd.2 i x z p r)
   have:=VR.tuple' h1
   simpa using this
theorem LR.back {φ φ':Ph} (hle:φ.le φ') {xs:List AV} {ys zs:List Value} (h:LR φ xs ys) (h':LR φ' xs zs):LR φ xs zs:=
 LR.yR h h' fun i x y z p q r=>(h.2 i x y p q).back hle (h'.2 i x z p r)
theorem OR.back {φ φ':Ph} (hle:φ.le φ') {o:aM} {l:Loc} {x z:Option Obj} (h:OR E φ o l x) (h':OR E φ' o l z):OR E φ o l z:=by
 cases o with
 | cells cs e ro=>
   obtain ⟨C,e1,lo,hi,_,hc⟩:=h
   obtain ⟨D,e2,My,HE,hz,hd⟩:=h'
   refine ⟨D,e2,My,HE,hz,hd.size,fun k x hk=>?_,hd.free,hd.zero⟩
   obtain ⟨y,_,hy⟩:=hc.val k x hk
   obtain ⟨y',h1,Xj⟩:=hd.val k x hk
   exact ⟨y',h1,hy.back hle Xj⟩
 | map es clock=>
   obtain ⟨_,es1,_,hl,hv⟩:=h
   obtain ⟨h0,es2,hz,ZW,hv'⟩:=h'
   refine ⟨h0,es2,hz,ZW,fun i x y hx hy=>?_⟩
   have hi:i<es.length:=(List.getElem?_eq_some_iff.1 hx).1
   have:i<es1.toList.length:=by rw[←hl];exact hi
   have a:=hv i x _ hx (List.getElem?_eq_getElem this)
   have b:=hv' i x y hx hy
   exact ⟨a.key.back hle b.key,a.val.back hle b.val,b.born⟩
 | v9 s pos=>exact h'
 | CY m since seen rQ=>
   cases m with
   | none=>exact h'
   | some m=>
     obtain ⟨_,lm,hm,_⟩:=h
     obtain ⟨h0,lm',WN,hz⟩:=h'
     rw[hle _ _ hm] at WN;cases WN
     exact ⟨h0,lm,hm,hz⟩
 | loop st pd ts ps as bd dn=>
   obtain ⟨_,r,_,hr⟩:=h
   obtain ⟨h0,r',hz,SJ⟩:=h'
   obtain ⟨ld,hd,_⟩:=hr.defers
   obtain ⟨ld',Z3,Mi⟩:=SJ.defers
   rw[hle _ _ hd] at Z3;cases Z3
   exact ⟨h0,r',hz,SJ.state,SJ.pending,hr.tmps.back hle SJ.tmps,SJ.params,SJ.assign,SJ.body,⟨ld,hd,Mi⟩,SJ.fn⟩
 | Qk=>exact h'
def Has (h h':au):Prop:=∀i o,h.get i=some o→h'.get i=some o
theorem Has.refl (h:au):Has h h:=fun _ _ e=>e
theorem Has.trans {a b c:au} (x:Has a b) (y:Has b c):Has a c:=fun i o e=>y i o (x i o e)
theorem OK.forget {φ φ':Ph} {h h':au} {w w':World} (ok:OK E φ h w) (hle:φ.le φ') (tc:OK E φ' h' w') (hs:Has h h'):OK E φ h w' where
 B6:=ok.B6
 nx:=ok.nx
 wN:=ok.wN
 live i o l a b:=(ok.live i o l a b).back hle (tc.live i o l (hs i o a) (hle _ _ b))
 inj:=ok.inj
theorem Fr.forget {φ φ':Ph} {h h':au} {w w':World} (f:Fr φ h w φ' h' w'):Fr φ h w φ h w' where
 ext:=Ph.le_refl φ
 old _ _:=rfl
 nx:=Nat.le_refl _
 os:=f.os
 tape:=f.tape
 output:=f.output
 size:=f.size
 Fq:=f.Fq
 own i o l a b c:= .inr ⟨i,o,l,a,b,c,rfl⟩
def AV.plain:Nat→AV→Bool
 | 0,_=>false
 | n+1,x=>match x with
   | .bool _ | .int .. | .str _ | .gQ | .aH | .eF | .nilFunc | .nilIface=>true
   | .iface _ v=>AV.plain n v
   | .agg cs=>cs.all (AV.plain n)
   | .tuple cs=>cs.all (AV.plain n)
   | _=>false
theorem VR.plain {φ φ':Ph}:∀(n:Nat) {x:AV} (_:AV.plain n x=true) {y:Value},VR φ' x y→VR φ x y
 | 0,_,h,_,_=>by cases h
 | n+1,x,h,y,hv=>by
   have ih:= @VR.plain φ φ' n
   cases hv with
   | bool b=>exact .bool b
   | int k m=>exact .int k m
   | str s=>exact .str s
   | gQ=>exact .gQ
   | aH=>exact .aH
   | eF=>exact .eF
   | nilFunc=>exact .nilFunc
   | nilIface=>exact .nilIface
   | iface t v v' h'=>exact .iface t v v' (ih (by simpa [AV.plain] using h) h')
   | agg cs jL hl hc=>
     refine .agg cs jL hl fun i x y a b=>ih ?_ (hc i x y a b)
     simp only[AV.plain,List.all_eq_true] at h
     exact h x (List.mem_of_getElem? a)
   | tuple cs jL hl hc=>
     refine .tuple cs jL hl fun i x y a b=>ih ?_ (hc i x y a b)
     simp only[AV.plain,List.all_eq_true] at h
     exact h x (List.mem_of_getElem? a)
   | _=>cases h
theorem mF.closed {f:FuncId} {args:List AV} {h':au} {v:AV} (r:mF E f args (Fa.KP E.G []) v h') (ha:args.all (AV.plain 20)=true) (hv:AV.plain 20 v=true) (h:au):mF E f args h v h:=fun φ w vs ok hl=>by
 let φ0:Ph:=fun i=>if i<E.G then φ i else none
 have hle:φ0.le φ:=fun i l e=>by
  simp only[φ0] at e
  split at e
  · exact e
  · cases e
 have T':∀{i o},(Fa.KP E.G []).get i=some o→False:=fun e=>by cases Fa.GP e
 have ok0:OK E φ0 (Fa.KP E.G []) w:=by
  refine ⟨fun i l e=>?_,Nat.le_refl _,fun g hg=>?_,fun i o l e=>(T' e).elim,fun i j o p l m e=>(T' e).elim⟩
  · simp only[φ0] at e
    split at e
    · assumption
    · cases e
  · simp only[φ0,hg,if_true];exact ok.wN g hg
 have hl0:LR φ0 args vs:=⟨hl.1,fun i x y a b=>(hl.2 i x y a b).plain 20 (List.all_eq_true.1 ha x (List.mem_of_getElem? a))⟩
 obtain ⟨h1,h2⟩:=r φ0 w vs ok0 hl0
 refine ⟨h1,fun cs=>?_⟩
 obtain ⟨φ',w',v',fr,x1,x2,x3,x4⟩:=h2 cs
 have aag:∀b,b<w.heap.size→w'.heap[b]? =w.heap[b]? :=fun b hb=>x3.Fq b hb fun i o l e=>(T' e).elim
 refine ⟨φ,w',v',fr,x1.plain 20 hv,⟨ok.B6,ok.nx,ok.wN,fun i o l a b=>?_,ok.inj⟩,⟨Ph.le_refl φ,fun _ _=>rfl,Nat.le_refl _,x3.os,x3.tape,x3.output,x3.size,fun b hb _=>aag b hb,fun i o l a b c=> .inr ⟨i,o,l,a,b,c,rfl⟩⟩,x4⟩
 have hr:=ok.live i o l a b
 by_cases hb:l.g6<w.heap.size
 · rw[aag _ hb];exact hr
 · rw[Array.getElem?_eq_none (by omega)] at hr
   exact hr.absurd.elim
end Go.Ab
end
