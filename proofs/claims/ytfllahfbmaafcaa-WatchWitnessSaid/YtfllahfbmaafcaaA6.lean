import Derived.Laws.Externs
import Derived.Lib.Bytealg
import Derived.Maps.Own
import Derived.Maps.Range
import Derived.Sort.KeysCollected
import GoSem.ClaimChange
import Derived.OpenShut
import Derived.FnData
import Derived.ChangeArms
import Derived.Test.YtfllahfbmaafcaaA5
import Derived.Test.YtfllahfbmaafcaaA3
import Derived.Test.YtfllahfbmaafcaaA1
import Derived.Test.YtfllahfbmaafcaaA4
set_option linter.unusedVariables false
set_option linter.unusedSimpArgs false
section
namespace Go.Ab.Fa
variable {E:Env} {F:RF} {n:Nat}
theorem jA {ts:List AV} {x:Operand} {a:AV} (h:eA E ts x=some a):fW E ts [x]=some [a]:=by simp [fW,eH,h]
theorem EC {ts:List AV} {x y:Operand} {a b:AV} (h:eA E ts x=some a) (h':eA E ts y=some b):fW E ts [x,y]=some [a,b]:=by simp [fW,eH,h,h']
theorem Wk (v:AV):acs v=nE v:=by
 cases v with
 | str s=>show some (jt s)=some s.length;rw[fS]
 | _=>rfl
theorem O_ {h:aA} {size m:Nat} {v:AV} {l:List AV} (e:Rz h size m v=some l):fj h size m v=some l:=by
 cases v with
 | aP=>
   obtain ⟨h1,e1⟩:=fM (show bc (Nat.beq m 0) (some []) none=some l from e)
   simp only[fj];rw[if_pos (mG h1)];exact e1
 | slice i o len c b=>
   obtain ⟨h1,e1⟩:=fM (show bc (Nat.ble m len) (ob none (fun obj=>yU (fun cs _ _=>bc (Nat.ble (o+m*size) (jt cs)) (some (sQ (sP cs o) (m*size))) none) none obj) (h.get i)) none=some l from e)
   obtain ⟨obj,h2,e2⟩:=gN e1
   obtain ⟨cs,el,ro,rfl,e3⟩:=rm e2
   obtain ⟨h3,e4⟩:=fM e3
   have h1:=fN h1
   have h3:=fN h3
   rw[fS] at h3
   rw[qm,ql] at e4
   simp only[fj,h2]
   rw[if_pos h1]
   by_cases h0:m=0
   · subst h0
     rw[if_pos rfl]
     rw[Nat.zero_mul,List.take_zero] at e4
     exact e4
   · rw[if_neg h0,if_pos h3];exact e4
 | _=>exact e
theorem R1 {h:aA} {obj:aX} {f:aA→AV×aA} {p:AV×aA} (e:ob none (fun h'=>some (f h')) (h.new obj)=some p):∃h',h.new obj=some h'∧p=f h':=by
 obtain ⟨h',h1,e1⟩:=gN e
 exact ⟨h',h1,(Option.some.inj e1).symm⟩
theorem Wl {argTypes:Array TypeId} {sT xT elem:TypeId} {xd:TypeDesc} {size bytes:Nat} {z:AV} (h1:argTypes[0]? =some sT) (h2:argTypes[1]? =some xT) (h3:E.P.underlying sT=some (.slice elem)) (h4:E.P.underlying xT=some xd)
 (h5:mD xd=false) (h6:ch E elem=some size) (h7:fQ E elem=some bytes) (h8:fC E elem=some z) (h9:z.cells.length=size)
 {h:aA} {s x:AV} {p:AV×aA} (e:acu elem size bytes h s x=some p):bX E h argTypes s x=some p:=by
 obtain ⟨m,a1,e1⟩:=gN e
 rw[Wk] at a1
 obtain ⟨new,a2,e2⟩:=gN e1
 have a2:=O_ a2
 obtain ⟨a3,e3⟩:=fM e2
 obtain ⟨a4,e4⟩:=fM e3
 rw[ri,I4] at a3
 have a4:=mG a4
 rw[fS] at a4
 unfold bX
 simp only[h1,h2,h3,h4,h5,h6,h7,h8,a1,a2]
 rw[if_neg (by simp)]
 rw[if_pos ⟨h9,a3,a4⟩]
 rcases oQ e4 with ⟨rfl,e5⟩ | ⟨i,o,len,cap,op,rfl,e5⟩
 · cases hm:Nat.beq m 0 with
   | true=>
     rw[hm,jH] at e5
     simp only;rw[if_pos (mG hm)];exact e5
   | false=>
     rw[hm,dY] at e5
     obtain ⟨a5,e6⟩:=fM e5
     have a5:(4*m+4096)*(bytes+1)≤1099511627776:=fN a5
     obtain ⟨h',a6,rfl⟩:=R1 e6
     simp only
     rw[if_neg (by intro ee;rw[ee] at hm;cases hm),if_pos a5]
     simp only[a6]
 · obtain ⟨obj,a5,e6⟩:=gN e5
   obtain ⟨cs,el,ro,rfl,e7⟩:=rm e6
   obtain ⟨a6,e8⟩:=rl e7
   subst a6
   simp only[a5]
   cases hc:Nat.ble (Nat.add len m) cap with
   | true=>
     rw[hc,jH] at e8
     have hc:len+m≤cap:=fN hc
     obtain ⟨a7,e9⟩:=fM e8
     have a7:o+(len+m)*size≤jt cs:=fN a7
     rw[fS] at a7
     rw[if_pos hc,if_pos a7,←Option.some.inj e9,Gs];rfl
   | false=>
     rw[hc,dY] at e8
     have hc:cap<len+m:=kD hc
     obtain ⟨a7,e9⟩:=fM e8
     have a7:(4*(len+m)+4096)*(bytes+1)≤1099511627776:=fN a7
     obtain ⟨a8,X4⟩:=fM e9
     have a8:o+len*size≤jt cs:=fN a8
     rw[fS] at a8
     rw[if_neg (by omega)]
     cases op with
     | true=>
       rw[jH] at X4
       obtain ⟨a9,e11⟩:=fM X4
       obtain ⟨ZG,e12⟩:=fM e11
       obtain ⟨a0,e12⟩:=fM e12
       have a0:o=0:=mG a0
       have a9:=mG a9
       have ZG:o+cap*size=jt cs:=mG ZG
       rw[fS] at ZG
       obtain ⟨h',a11,rfl⟩:=R1 e12
       rw[n_,qm,ql] at a11
       rw[if_pos ⟨a7,a8,fun _=>⟨a9,ZG,a0⟩⟩]
       rw[if_pos rfl]
       have ZH:(h.put i none).new (.cells ((cs.drop o).take (len*size)++new) elem false)=some h':=a11
       simp only[ZH];rfl
     | false=>
       rw[dY] at X4
       obtain ⟨h',a11,rfl⟩:=R1 X4
       rw[n_,qm,ql] at a11
       rw[if_pos ⟨a7,a8,fun hh=>by cases hh⟩]
       rw[if_neg (by simp)]
       have ZH:h.new (.cells ((cs.drop o).take (len*size)++new) elem false)=some h':=a11
       simp only[ZH];rfl
theorem lR {b:Builtin} (h1:b≠ .len) (h2:b≠ .cap) (h3:b≠ .max) (h4:b≠ .min) (a:Array Operand) (t:Array TypeId):sX E (.call ⟨.builtin b,a,t⟩):=by
 cases b<;>first | exact absurd rfl h1 | exact absurd rfl h2 | exact absurd rfl h3 | exact absurd rfl h4 | exact ⟨fun _=>rfl,fun _ _=>rfl,fun _=>rfl⟩
theorem O' (a:Array Operand) (t:Array TypeId):gu E F n (.call ⟨.builtin .append,a,t⟩) (match a.toList with
 | [s,x]=>wO E F n s (fun gs=>wO E F n x (fun gx=>O3 E t gs gx) .bad) .bad
 | _=> .bad):=by
 have nn:sX E (.call ⟨.builtin .append,a,t⟩):=lR (by simp) (by simp) (by simp) (by simp) a t
 generalize hl:a.toList=l
 match l with
 | []=>trivial
 | [_]=>trivial
 | _::_::_::_=>trivial
 | [s,x]=>
   simp only
   rcases b7 E F n s (fun gs=>wO E F n x (fun gx=>O3 E t gs gx) .bad) (.bad:Kd F.T) with h | ⟨gs,h,hs⟩<;>rw[h]
   · trivial
   rcases b7 E F n x (fun gx=>O3 E t gs gx) (.bad:Kd F.T) with h | ⟨gx,h,hx⟩<;>rw[h]
   · trivial
   unfold O3
   simp only[gY,Array.getElem?_toList,ji,oT,RM,zb]
   have fin:∀(f:F.T→aA→Option (AV×aA)),(∀r h p,f r h=some p→bX E h t (gs r) (gx r)=some p)→gu E F n (.call ⟨.builtin .append,a,t⟩) (.wr f):=by
    intro f hf
    refine ⟨nn,fun call r h rc o p ho e=>?_⟩
    simp only[dm,ho,hl,EC (hs r) (hx r),hf r h p e]
   cases h1:t[0]? with
   | none=>trivial
   | some sT=>cases h2:t[1]? with
     | none=>trivial
     | some xT=>
       simp only
       cases h3:E.P.underlying sT with
       | none=>trivial
       | some sd=>cases h4:E.P.underlying xT with
         | none=>cases sd<;>trivial
         | some xd=>cases sd with
           | slice elem=>
             simp only
             cases h5:mD xd with
             | true=>
               rw[if_pos rfl]
               apply fin
               intro r h p e
               unfold bX
               simp only[h1,h2,h3,h4,h5]
               rw[if_pos trivial];exact e
             | false=>
               rw[if_neg (by simp)]
               cases h6:ch E elem with
               | none=>trivial
               | some size=>cases h7:fQ E elem with
                 | none=>trivial
                 | some bytes=>cases h8:fC E elem with
                   | none=>trivial
                   | some z=>
                     simp only
                     by_cases h9:z.cells.length=size
                     · rw[if_pos h9]
                       exact fin _ fun r h p e=>Wl h1 h2 h3 h4 h5 h6 h7 h8 h9 e
                     · rw[if_neg h9];trivial
           | _=>trivial
theorem Nl (a:Array Operand) (t:Array TypeId):gu E F n (.call ⟨.builtin .copy,a,t⟩) (match a.toList with
 | [s,x]=>wO E F n s (fun gs=>wO E F n x (fun gx=> .wr fun r h=>u_ E h t (gs r) (gx r)) .bad) .bad
 | _=> .bad):=by
 have nn:sX E (.call ⟨.builtin .copy,a,t⟩):=lR (by simp) (by simp) (by simp) (by simp) a t
 generalize hl:a.toList=l
 match l with
 | []=>trivial
 | [_]=>trivial
 | _::_::_::_=>trivial
 | [s,x]=>
   simp only
   rcases b7 E F n s (fun gs=>wO E F n x (fun gx=>(.wr fun r h=>u_ E h t (gs r) (gx r):Kd F.T)) .bad) (.bad:Kd F.T) with h | ⟨gs,h,hs⟩<;>rw[h]
   · trivial
   rcases b7 E F n x (fun gx=>(.wr fun r h=>u_ E h t (gs r) (gx r):Kd F.T)) (.bad:Kd F.T) with h | ⟨gx,h,hx⟩<;>rw[h]
   · trivial
   refine ⟨nn,fun call r h rc o p ho e=>?_⟩
   simp only[dm,ho,hl,EC (hs r) (hx r),e]
theorem Ll (a:Array Operand) (t:Array TypeId):gu E F n (.call ⟨.builtin .recover,a,t⟩) (.uE fun _ _ h rc=>match rc with
 | .ir x=> .rW x
 | .sm _=> .fail "" none
 | _=> .val .nilIface h):=by
 refine ⟨lR (by simp) (by simp) (by simp) (by simp) a t,fun fc call _ r h rc o ho=>?_⟩
 simp only[dm,ho]
 cases rc<;>first | trivial | rfl
theorem ZI (a:Array Operand) (t:Array TypeId):gu E F n (.call ⟨.builtin .len,a,t⟩) (match ju t.toList 0,a.toList with
 | some t,[x]=>wO E F n x (fun g=>match kl E.P t with
   | some .string=> .gS fun r=>rf (fun s=>some (.int .i64 (Int.ofNat (jt s)))) none (g r)
   | some (.array m _)=> .gS fun _=>some (.int .i64 (Int.ofNat m))
   | some (.slice _)=> .gS fun r=>jQ (some (.int .i64 (Int.ofNat 0))) (fun _ _ m _ _=>some (.int .i64 (Int.ofNat m))) (vZ (some (.int .i64 (Int.ofNat 0))) none (g r)) (g r)
   | some (.map _ _)=> .red fun r h=>M4 h (g r)
   | _=> .bad) .bad
 | _,_=> .bad):=by
 rw[gY,Array.getElem?_toList]
 cases ht:t[0]? with
 | none=>trivial
 | some tt=>
   generalize hl:a.toList=l
   match l with
   | []=>trivial
   | _::_::_=>trivial
   | [x]=>
     simp only[ji]
     rcases b7 E F n x (fun g=>match E.P.underlying tt with
      | some .string=>(.gS fun r=>rf (fun s=>some (.int .i64 (Int.ofNat (jt s)))) none (g r):Kd F.T)
      | some (.array m _)=> .gS fun _=>some (.int .i64 (Int.ofNat m))
      | some (.slice _)=> .gS fun r=>jQ (some (.int .i64 (Int.ofNat 0))) (fun _ _ m _ _=>some (.int .i64 (Int.ofNat m))) (vZ (some (.int .i64 (Int.ofNat 0))) none (g r)) (g r)
      | some (.map _ _)=> .red fun r h=>M4 h (g r)
      | _=> .bad) .bad with h | ⟨g,h,hg⟩<;>rw[h]
     · trivial
     cases hu:E.P.underlying tt with
     | none=>trivial
     | some d=>cases d with
       | string=>
         intro r v e
         obtain ⟨s,e1,e2⟩:=oP e
         simp only[bE,ht,hl,jA (hg r),hu,e1]
         rw[←e2,fS];rfl
       | array m el=>
         intro r v e
         simp only[bE,ht,hl,jA (hg r),hu]
         exact e
       | slice el=>
         intro r v e
         rcases I3 e with ⟨e1,e2⟩ | ⟨i,o,l,c,b,e1,e2⟩ | ⟨e1,e2⟩
         · simp only[bE,ht,hl,jA (hg r),hu,e1];exact e2
         · simp only[bE,ht,hl,jA (hg r),hu,e1];exact e2
         · simp only[bE,ht,hl,jA (hg r),hu,e1];exact e2
       | map key el=>
         intro r h v e
         have e:M4 h (g r)=some v:=e
         generalize hm:g r=m at e
         cases m with
         | dU=>exact .inl (by simp only[bE,ht,hl,jA (hg r),hu,hm];exact e)
         | map i=>
           refine .inr ⟨by simp only[bE,ht,hl,jA (hg r),hu,hm],?_⟩
           obtain ⟨o,h3,h4⟩:=gN (show ob none (fun o=>V1 (fun es=>some (AV.int .i64 (Int.ofNat (jt es)))) none o) (h.get i)=some v from e)
           cases o with
           | map es c=>
             have h4:some (AV.int .i64 (Int.ofNat (jt es)))=some v:=h4
             simp only[dW,ht,hl,jA (hg r),hu,hm,h3]
             rw[←h4,fS];rfl
           | _=>cases h4
         | _=>cases e
       | _=>trivial
theorem ZJ (a:Array Operand) (t:Array TypeId):gu E F n (.call ⟨.builtin .cap,a,t⟩) (match ju t.toList 0,a.toList with
 | some t,[x]=>wO E F n x (fun g=>match kl E.P t with
   | some (.slice _)=> .gS fun r=>jQ (some (.int .i64 (Int.ofNat 0))) (fun _ _ _ c b=>bc b none (some (.int .i64 (Int.ofNat c)))) none (g r)
   | _=> .bad) .bad
 | _,_=> .bad):=by
 rw[gY,Array.getElem?_toList]
 cases ht:t[0]? with
 | none=>trivial
 | some tt=>
   generalize hl:a.toList=l
   match l with
   | []=>trivial
   | _::_::_=>trivial
   | [x]=>
     simp only[ji]
     rcases b7 E F n x (fun g=>match E.P.underlying tt with
      | some (.slice _)=>(.gS fun r=>jQ (some (.int .i64 (Int.ofNat 0))) (fun _ _ _ c b=>bc b none (some (.int .i64 (Int.ofNat c)))) none (g r):Kd F.T)
      | _=> .bad) .bad with h | ⟨g,h,hg⟩<;>rw[h]
     · trivial
     cases hu:E.P.underlying tt with
     | none=>trivial
     | some d=>cases d with
       | slice el=>
         intro r v e
         rcases oQ e with ⟨e1,e2⟩ | ⟨i,o,l,c,b,e1,e2⟩
         · simp only[bE,ht,hl,jA (hg r),hu,e1];exact e2
         · obtain ⟨rfl,e3⟩:=rl e2
           simp only[bE,ht,hl,jA (hg r),hu,e1];exact e3
       | _=>trivial
theorem Pa (f:FuncId) (a:Array Operand) (t:Array TypeId):gu E F n (.call ⟨.value (.func f),a,t⟩) (wL E F n a.toList (fun gs=>match E.mT f with
 | some e=> .gS fun r=>e (gs r)
 | none=>match E.jd f with
   | some g=> .wr fun r h=>g (gs r) h
   | none=> .call (.fn f) gs) .bad):=by
 rcases uu E F n a.toList (fun gs=>match E.mT f with
  | some e=>(.gS fun r=>e (gs r):Kd F.T)
  | none=>match E.jd f with
    | some g=> .wr fun r h=>g (gs r) h
    | none=> .call (.fn f) gs) .bad with h | ⟨gs,h,hg⟩<;>rw[h]
 · trivial
 cases hp:E.mT f with
 | some e=>
   intro r v h
   simp only[bE,hp,hg];exact h
 | none=>
   have nn:sX E (.call ⟨.value (.func f),a,t⟩):=⟨fun _=>by simp only[bE,hp],fun _ _=>rfl,fun _=>rfl⟩
   have hc:∀r,callee E (fi F n r) ⟨.value (.func f),a,t⟩=some (.fn f,gs r):=by
    intro r
    simp only[callee,hg,eA]
    simp
   cases hs:E.jd f with
   | some g=>
     refine ⟨nn,fun call r h rc o p ho e=>?_⟩
     have e':g (gs r) h=some p:=e
     simp only[dm,ho,hc,j_,hs,e']
   | none=>
     refine ⟨nn,fun call r h rc o ho=>?_⟩
     simp only[dm,ho,hc,j_,hs]
     cases call (.fn f) (gs r) h<;>rfl
theorem BN {a b:jB} (h1:∀v h',a= .ret v h'→b= .ret v h') (h2:∀v h',a= .panic v h'→b= .panic v h'):X3 (nf a) (nf b):=by
 cases a with
 | ret v h=>rw[h1 v h rfl];rfl
 | panic v h=>rw[h2 v h rfl];rfl
 | fail _ _=>trivial
theorem vJ (x:Operand) (hx:∀f,x≠ .func f) (a:Array Operand) (t:Array TypeId):gu E F n (.call ⟨.value x,a,t⟩) (wO E F n x (fun gf=>wL E F n a.toList (fun gs=> .uE fun call r h _=>MZ
 (fun g first captured=>ob (nf (call (.fn g) (lK first (lK (gs r) captured)) h)) (fun sp=>ob (.fail "" none) (fun p=> .val p.1 p.2) (sp (lK first (lK (gs r) captured)) h)) (E.jd g))
 (fun l=>nf (call (.ua l) (gs r) h)) (.fail "" none) (gf r)) .bad) .bad):=by
 have nn:sX E (.call ⟨.value x,a,t⟩):=by
  cases x with
  | func f=>exact absurd rfl (hx f)
  | _=>exact ⟨fun _=>rfl,fun _ _=>rfl,fun _=>rfl⟩
 let K:(F.T→AV)→(F.T→List AV)→Kd F.T:=fun gf gs=> .uE fun call r h _=>MZ
  (fun g first captured=>ob (nf (call (.fn g) (lK first (lK (gs r) captured)) h)) (fun sp=>ob (.fail "" none) (fun p=> .val p.1 p.2) (sp (lK first (lK (gs r) captured)) h)) (E.jd g))
  (fun l=>nf (call (.ua l) (gs r) h)) (.fail "" none) (gf r)
 show gu E F n _ (wO E F n x (fun gf=>wL E F n a.toList (fun gs=>K gf gs) .bad) .bad)
 rcases b7 E F n x (fun gf=>wL E F n a.toList (fun gs=>K gf gs) .bad) .bad with h | ⟨gf,h,hf⟩<;>rw[h]
 · trivial
 rcases uu E F n a.toList (fun gs=>K gf gs) .bad with h | ⟨gs,h,hg⟩<;>rw[h]
 · trivial
 refine ⟨nn,fun fc call hle r h rc o ho=>?_⟩
 have ec:∀R,callee E (fi F n r) ⟨.value x,a,t⟩=R→dm E call (fi F n r) h rc o=(match R with
  | some (f,args)=>match j_ E f with
    | some g=>(match g args h with | some (x,h')=> .val x h' | none=> .fail "eff" (some o))
    | none=>nf (call f args h)
  | none=> .fail "callee" (some o)):=by
  intro R hR
  simp only[dm,ho,hR]
  cases R with
  | none=>rfl
  | some p=>
    obtain ⟨f,args⟩:=p
    simp only
    cases j_ E f with
    | none=>simp only;cases call f args h<;>rfl
    | some g=>rfl
 show X3 (MZ _ _ _ (gf r)) _
 cases hv:gf r with
 | func g first captured=>
   have hc:callee E (fi F n r) ⟨.value x,a,t⟩=some (.fn g,first++gs r++captured):=by
    simp only[callee,hf,hg,hv]
   rw[ec _ hc]
   have ha:lK first (lK (gs r) captured)=first++gs r++captured:=by rw[n_,n_,List.append_assoc]
   show X3 (ob (nf (fc (.fn g) (lK first (lK (gs r) captured)) h)) (fun sp=>ob (.fail "" none) (fun p=> .val p.1 p.2) (sp (lK first (lK (gs r) captured)) h)) (E.jd g)) _
   rw[ha]
   simp only[j_]
   cases hs:E.jd g with
   | none=>exact BN (hle _ _ _).1 (hle _ _ _).2
   | some sp=>
     show X3 (ob (.fail "" none) (fun p=> .val p.1 p.2) (sp (first++gs r++captured) h)) _
     simp only
     cases sp (first++gs r++captured) h with
     | none=>trivial
     | some p=>rfl
 | cE l=>
   have hc:callee E (fi F n r) ⟨.value x,a,t⟩=some (.ua l,gs r):=by
    simp only[callee,hf,hg,hv]
   rw[ec _ hc]
   simp only[j_]
   exact BN (hle _ _ _).1 (hle _ _ _).2
 | _=>trivial
theorem Pb (x:Operand) (name:String) (a:Array Operand) (t:Array TypeId):gu E F n (.call ⟨.invoke x name,a,t⟩) (wO E F n x (fun gx=>wL E F n a.toList (fun gs=> .uE fun call r h _=>rh
 (fun t v=>ob (.fail "" none) (fun f=>nf (call (.fn f) (v::gs r) h)) (I0 E t name)) (.fail "" none) (gx r)) .bad) .bad):=by
 have nn:sX E (.call ⟨.invoke x name,a,t⟩):=⟨fun _=>rfl,fun _ _=>rfl,fun _=>rfl⟩
 let K:(F.T→AV)→(F.T→List AV)→Kd F.T:=fun gx gs=> .uE fun call r h _=>rh
  (fun t v=>ob (.fail "" none) (fun f=>nf (call (.fn f) (v::gs r) h)) (I0 E t name)) (.fail "" none) (gx r)
 show gu E F n _ (wO E F n x (fun gx=>wL E F n a.toList (fun gs=>K gx gs) .bad) .bad)
 rcases b7 E F n x (fun gx=>wL E F n a.toList (fun gs=>K gx gs) .bad) .bad with h | ⟨gx,h,hx⟩<;>rw[h]
 · trivial
 rcases uu E F n a.toList (fun gs=>K gx gs) .bad with h | ⟨gs,h,hg⟩<;>rw[h]
 · trivial
 refine ⟨nn,fun fc call hle r h rc o ho=>?_⟩
 show X3 (rh _ _ (gx r)) _
 cases hv:gx r with
 | iface u v=>
   show X3 (ob (.fail "" none) (fun f=>nf (fc (.fn f) (v::gs r) h)) (I0 E u name)) _
   cases hm:I0 E u name with
   | none=>trivial
   | some f=>
     have ZK:wB E u name=some f:=hm
     have ec:dm E call (fi F n r) h rc o=nf (call (.fn f) (v::gs r) h):=by
      simp only[dm,ho,hx,hg,hv,ZK]
      cases call (.fn f) (v::gs r) h<;>rfl
     rw[ec]
     exact BN (hle _ _ _).1 (hle _ _ _).2
 | _=>trivial
theorem R2 (c:Call):gu E F n (.call c) (X0 E F n c (.call c)):=by
 obtain ⟨cz,a,t⟩:=c
 cases cz with
 | value x=>cases x with
   | func f=>exact Pa f a t
   | tmp x=>exact vJ (.tmp x) (by simp) a t
   | const x=>exact vJ (.const x) (by simp) a t
   | global x=>exact vJ (.global x) (by simp) a t
 | invoke r m=>exact Pb r m a t
 | builtin b=>cases b with
   | append=>exact O' a t
   | copy=>exact Nl a t
   | recover=>exact Ll a t
   | len=>exact ZI a t
   | cap=>exact ZJ a t
   | max=>exact fun r v e=>e
   | min=>exact fun r v e=>e
   | _=>trivial
theorem I' (op:Op):gu E F n op (ve E F n op):=by
 cases op with
 | move x=>
   show gu E F n _ (wO E F n x .H2 .bad)
   rcases b7 E F n x .H2 (.bad:Kd F.T) with h | ⟨g,h,hg⟩<;>rw[h]
   · trivial
   · exact hg
 | assign x=>
   show gu E F n _ (wO E F n x .H2 .bad)
   rcases b7 E F n x .H2 (.bad:Kd F.T) with h | ⟨g,h,hg⟩<;>rw[h]
   · trivial
   · exact hg
 | pick c a b=>exact Wh c a b
 | binOp op t x y yt=>
   show gu E F n _ (wO E F n x (fun gx=>wO E F n y (fun gy=>cy op (ks E op t (isConst x) (isConst y)) gx gy) .bad) .bad)
   rcases b7 E F n x (fun gx=>wO E F n y (fun gy=>cy op (ks E op t (isConst x) (isConst y)) gx gy) .bad) (.bad:Kd F.T) with h | ⟨gx,h,hx⟩<;>rw[h]
   · trivial
   rcases b7 E F n y (fun gy=>cy op (ks E op t (isConst x) (isConst y)) gx gy) (.bad:Kd F.T) with h | ⟨gy,h,hy⟩<;>rw[h]
   · trivial
   exact Wf op t x y yt gx gy hx hy
 | unOp op t x=>
   show gu E F n _ (wO E F n x (unK op) .bad)
   rcases b7 E F n x (unK op) (.bad:Kd F.T) with h | ⟨g,h,hg⟩<;>rw[h]
   · trivial
   exact ZB op t x g hg
 | fieldAddr s x f=>exact Gu s x f
 | load t a=>exact Wg t a
 | store t a x=>exact RV t a x
 | nilCheck x=>exact I6 x
 | extract x i=>exact Lj x i
 | field s x f=>exact RR s x f
 | indexAddr t x ix=>exact Gv t x ix
 | index t x ix=>exact RS t x ix
 | slice t x lo hi mx=>cases mx with
   | none=>exact RU t x lo hi
   | some m=>exact fun r v e=>e
 | convert s d x=>exact Lk s d x
 | makeInterface t x=>exact zc t x
 | makeFunc f a b=>cases f with
   | func f=>exact I8 f a b
   | _=>trivial
 | alloc t=>exact RW t
 | box t x=>exact ZF t x
 | buildSlice t len parts=>exact DP t len parts
 | makeSlice t l c=>exact Gw t l c
 | makeMap t r=>cases r with
   | none=>exact ⟨fun _=>rfl,fun _ _=>rfl,fun r p e=>e⟩
   | some x=>exact ⟨fun _=>rfl,fun _ _=>rfl,fun r p e=>e⟩
 | range t x=>exact ⟨fun _=>rfl,fun _ _=>rfl,fun r p e=>e⟩
 | lookup t x ix ok=>exact O8 t x ix ok
 | build t parts=>exact RY t parts
 | typeAssert x a b ok=>exact fun r v e=>e
 | mapUpdate t m k x=>exact Gy t m k x
 | insert t m k x=>exact O9 t m k x
 | next it s=>exact Wj it s
 | panic x=>exact RZ x
 | defer c=>exact R0 c
 | call c=>exact R2 c
 | _=>trivial
end Go.Ab.Fa
end
section
namespace Go.Ab.Fa
variable {E:Env} {F:RF} {n:Nat}
def sb (_E:Env) (F:RF) (n:Nat) (o:FO F.T) (out:Out):Prop:=match o with
 | .IX r h y=>out= .ok .normal ⟨fi F n r,h,y.ds,y.rc⟩
 | .jmp e r h y=>e≠ .normal∧out= .ok e ⟨fi F n r,h,y.ds,y.rc⟩
 | .bad=>True
theorem GA {call:bh} {s:St} {o:Oper} {v:AV} (h:bE E s.ts o.op=some v):FH E call s o= .ok .normal {s with ts:=dN s.ts o.dst v}:=by
 simp only[FH,h]
theorem Wm {call:bh} {s:St} {o:Oper} {v:AV} (h0:bE E s.ts o.op=none) (h:dW E s.ts s.h o.op=some v):FH E call s o= .ok .normal {s with ts:=dN s.ts o.dst v}:=by
 simp only[FH,h0,h]
theorem GB {call:bh} {s:St} {o:Oper} (nn:sX E o.op):FH E call s o=(match dm E call s.ts s.h s.rc o with
 | .val v h'=> .ok .normal {s with ts:=dN s.ts o.dst v,h:=h'}
 | .defer d=> .ok .normal {s with ts:=dN s.ts o.dst AV.undef,ds:=d::s.ds}
 | .rW v=> .ok .normal {s with ts:=dN s.ts o.dst v,rc:= .done}
 | .panic v h'=> .ok (.panic v) {s with h:=h'}
 | .fail why q=> .fail why q):=by
 simp only[FH,nn.1,nn.2.1,nn.2.2]
 generalize dm E call s.ts s.h s.rc o=x
 cases x<;>rfl
noncomputable def acz (E:Env) (call:bh) (ops:Array Oper) (rest:List Oper) (out:Out):Out:=match out with
 | .ok .normal s'=>ku E call ops rest s'
 | r=>r
theorem Wn {ops:Array Oper} {o:Oper} {rest:List Oper} {kd:Kd F.T} {s:AV→F.T→F.T} {j:I F.T} {fc call:bh} (hle:kE fc call) (hk:gu E F n o.op kd)
 (hs:∀v r,dN (fi F n r) o.dst v=fi F n (s v r)) (hj:∀r h y,sb E F n (j.run fc r h y) (ku E call ops rest ⟨fi F n r,h,y.ds,y.rc⟩)) (r:F.T) (h:aA) (y:Y):
 sb E F n ((Le kd s j).run fc r h y) (acz E call ops rest (FH E call ⟨fi F n r,h,y.ds,y.rc⟩ o)):=by
 cases kd with
 | H2 g=>
   rw[GA (s:=⟨fi F n r,h,y.ds,y.rc⟩) (hk r)]
   show sb E F n (j.run fc (s (g r) r) h y) (ku E call ops rest ⟨dN (fi F n r) o.dst (g r),h,y.ds,y.rc⟩)
   rw[hs];exact hj _ _ _
 | gS f=>
   show sb E F n (ob .bad (fun v=>j.run fc (s v r) h y) (f r)) _
   cases hf:f r with
   | none=>trivial
   | some v=>
     rw[GA (s:=⟨fi F n r,h,y.ds,y.rc⟩) (hk r v hf)]
     show sb E F n (j.run fc (s v r) h y) (ku E call ops rest ⟨dN (fi F n r) o.dst v,h,y.ds,y.rc⟩)
     rw[hs];exact hj _ _ _
 | red f=>
   show sb E F n (ob .bad (fun v=>j.run fc (s v r) h y) (f r h)) _
   cases hf:f r h with
   | none=>trivial
   | some v=>
     rcases hk r h v hf with h0 | ⟨h0,h1⟩
     · rw[GA (s:=⟨fi F n r,h,y.ds,y.rc⟩) h0]
       show sb E F n (j.run fc (s v r) h y) (ku E call ops rest ⟨dN (fi F n r) o.dst v,h,y.ds,y.rc⟩)
       rw[hs];exact hj _ _ _
     rw[Wm (s:=⟨fi F n r,h,y.ds,y.rc⟩) h0 h1]
     show sb E F n (j.run fc (s v r) h y) (ku E call ops rest ⟨dN (fi F n r) o.dst v,h,y.ds,y.rc⟩)
     rw[hs];exact hj _ _ _
 | sA f=>
   obtain ⟨h0,h1,h2⟩:=hk
   show sb E F n (ob .bad (fun p=>ob .bad (fun h'=>j.run fc (s (p.2 h.nx) r) h' y) (h.new p.1)) (f r)) _
   cases hf:f r with
   | none=>trivial
   | some p=>
     obtain ⟨obj,mk⟩:=p
     show sb E F n (ob .bad (fun h'=>j.run fc (s (mk h.nx) r) h' y) (h.new obj)) _
     cases hh:h.new obj with
     | none=>trivial
     | some h'=>
       have:FH E call ⟨fi F n r,h,y.ds,y.rc⟩ o= .ok .normal ⟨dN (fi F n r) o.dst (mk h.nx),h',y.ds,y.rc⟩:=by
        simp only[FH,h0,h1,h2 r _ hf,hh]
       rw[this,hs];exact hj _ _ _
 | wr f=>
   obtain ⟨nn,h1⟩:=hk
   show sb E F n (ob .bad (fun p=>j.run fc (s p.1 r) p.2 y) (f r h)) _
   cases hf:f r h with
   | none=>trivial
   | some p=>
     rw[GB nn,h1 call r h y.rc o p rfl hf]
     show sb E F n (j.run fc (s p.1 r) p.2 y) (ku E call ops rest ⟨dN (fi F n r) o.dst p.1,p.2,y.ds,y.rc⟩)
     rw[hs];exact hj _ _ _
 | call g args=>
   obtain ⟨nn,h1⟩:=hk
   rw[GB nn,h1 call r h y.rc o rfl]
   show sb E F n (jB.rec (motive:=fun _=>FO F.T) (fun v h'=>j.run fc (s v r) h' y) (fun v h'=> .jmp (.panic v) r h' y) (fun _ _=> .bad) (fc g (args r) h)) _
   cases hc:fc g (args r) h with
   | fail _ _=>trivial
   | ret v h'=>
     rw[(hle _ _ _).1 v h' hc]
     show sb E F n (j.run fc (s v r) h' y) (ku E call ops rest ⟨dN (fi F n r) o.dst v,h',y.ds,y.rc⟩)
     rw[hs];exact hj _ _ _
   | panic v h'=>
     rw[(hle _ _ _).2 v h' hc]
     exact ⟨by simp,rfl⟩
 | uE f=>
   obtain ⟨nn,h1⟩:=hk
   rw[GB nn]
   have h2:=h1 fc call hle r h y.rc o rfl
   show sb E F n (yE.rec (motive:=fun _=>FO F.T) (fun v h'=>j.run fc (s v r) h' y) (fun d=>j.run fc (s AV.undef r) h ⟨d::y.ds,y.rc⟩) (fun v=>j.run fc (s v r) h ⟨y.ds,.done⟩)
    (fun v h'=> .jmp (.panic v) r h' y) (fun _ _=> .bad) (f fc r h y.rc)) _
   cases he:f fc r h y.rc with
   | fail _ _=>trivial
   | val v h'=>
     rw[he] at h2
     have h2:dm E call (fi F n r) h y.rc o= .val v h':=h2
     rw[h2]
     show sb E F n (j.run fc (s v r) h' y) (ku E call ops rest ⟨dN (fi F n r) o.dst v,h',y.ds,y.rc⟩)
     rw[hs];exact hj _ _ _
   | defer d=>
     rw[he] at h2
     have h2:dm E call (fi F n r) h y.rc o= .defer d:=h2
     rw[h2]
     show sb E F n (j.run fc (s AV.undef r) h ⟨d::y.ds,y.rc⟩) (ku E call ops rest ⟨dN (fi F n r) o.dst AV.undef,h,d::y.ds,y.rc⟩)
     rw[hs];exact hj _ _ ⟨d::y.ds,y.rc⟩
   | rW v=>
     rw[he] at h2
     have h2:dm E call (fi F n r) h y.rc o= .rW v:=h2
     rw[h2]
     show sb E F n (j.run fc (s v r) h ⟨y.ds,.done⟩) (ku E call ops rest ⟨dN (fi F n r) o.dst v,h,y.ds,.done⟩)
     rw[hs];exact hj _ _ ⟨y.ds,.done⟩
   | panic v h'=>
     rw[he] at h2
     have h2:dm E call (fi F n r) h y.rc o= .panic v h':=h2
     rw[h2]
     exact ⟨by simp,rfl⟩
 | bad=>trivial
def zd (ts:List AV) (d:Nat) (want:Bool):Bool:=match ts[d]? with
 | some (.bool b)=>b==want
 | _=>false
theorem zO {ts:List AV} {d:Nat} (h:ts.length≤d) (want:Bool):zd ts d want=false:=by
 unfold zd;rw[List.getElem?_eq_none h]
theorem zP {ts:List AV} {d:Nat} {v:AV} (h:ts[d]? =some v) (want:Bool):zd ts d want=jP (fun b=>b==want) false v:=by
 unfold zd;rw[h];cases v<;>rfl
theorem xf (ops:Array Oper) (ts:List AV) (o:Oper) {j:Nat} {want:Bool} (hg:o.guard=some (j,want)):cD ops ts o=(match (ops[j]?).bind (·.dst) with
 | some d=>match ts[d]? with
   | some (.bool b)=>b==want
   | _=>false
 | none=>false):=by simp only[cD,hg];rfl
theorem R3 (ops:Array Oper) (j:Nat):ob none (fun p=>p.dst) (ju ops.toList j)=(ops[j]?).bind (·.dst):=by
 rw[gY,Array.getElem?_toList];cases ops[j]? <;>rfl
theorem R4 (_hn:n≤F.N) (ops:Array Oper) (o:Oper) (a b:I F.T) (call:bh) (r:F.T) (h:aA) (y:Y):
 (M7 F n ops o a b).run call r h y=bif cD ops (fi F n r) o then a.run call r h y else b.run call r h y:=by
 unfold M7
 cases hg:o.guard with
 | none=>simp only[cD,hg];rfl
 | some p=>
   obtain ⟨j,want⟩:=p
   rw[xf ops _ o hg]
   simp only[R3]
   cases (ops[j]?).bind (·.dst) with
   | none=>rfl
   | some d=>
     show (bc (Nat.ble n d) b (Lf (F.get d).f want a b)).run call r h y=bif zd (fi F n r) d want then a.run call r h y else b.run call r h y
     cases hd:Nat.ble n d with
     | true=>
       rw[zO (by rw[jh];exact fN hd)];rfl
     | false=>
       rw[zP (um F n r (kD hd)),dY]
       cases want with
       | true=>
         show jP (fun t=>bc t (a.run call r h y) (b.run call r h y)) (b.run call r h y) ((F.get d).f r)=_
         cases (F.get d).f r with
         | bool t=>cases t<;>rfl
         | _=>rfl
       | false=>
         show jP (fun t=>bc t (b.run call r h y) (a.run call r h y)) (b.run call r h y) ((F.get d).f r)=_
         cases (F.get d).f r with
         | bool t=>cases t<;>rfl
         | _=>rfl
theorem Ja (_hn:n≤F.N) (ops:Array Oper) (o:Oper) (a b:D F.T) (call:bh) (r:F.T) (h:aA) (y:Y):
 (zL F n ops o a b).run call r h y=bif cD ops (fi F n r) o then a.run call r h y else b.run call r h y:=by
 unfold zL
 cases hg:o.guard with
 | none=>simp only[cD,hg];rfl
 | some p=>
   obtain ⟨j,want⟩:=p
   rw[xf ops _ o hg]
   simp only[R3]
   cases (ops[j]?).bind (·.dst) with
   | none=>rfl
   | some d=>
     show (bc (Nat.ble n d) b (RD (F.get d).f want a b)).run call r h y=bif zd (fi F n r) d want then a.run call r h y else b.run call r h y
     cases hd:Nat.ble n d with
     | true=>
       rw[zO (by rw[jh];exact fN hd)];rfl
     | false=>
       rw[zP (um F n r (kD hd)),dY]
       cases want with
       | true=>
         show jP (fun t=>bc t (a.run call r h y) (b.run call r h y)) (b.run call r h y) ((F.get d).f r)=_
         cases (F.get d).f r with
         | bool t=>cases t<;>rfl
         | _=>rfl
       | false=>
         show jP (fun t=>bc t (b.run call r h y) (a.run call r h y)) (b.run call r h y) ((F.get d).f r)=_
         cases (F.get d).f r with
         | bool t=>cases t<;>rfl
         | _=>rfl
theorem BP (hn:n≤F.N) {fc call:bh} (hle:kE fc call) (ops:Array Oper):∀(l:List Oper) (r:F.T) (h:aA) (y:Y),
 sb E F n ((ur E F n ops l).run fc r h y) (ku E call ops l ⟨fi F n r,h,y.ds,y.rc⟩)
 | [],r,h,y=>rfl
 | o::rest,r,h,y=>by
   have ih:=BP hn hle ops rest
   show sb E F n ((RA E F n ops o (ur E F n ops rest)).run fc r h y) _
   unfold RA
   obtain ⟨s,h1,hs⟩:=Nj F n hn o.dst (fun s=>M7 F n ops o (Le (ve E F n o.op) s (ur E F n ops rest)) (X1 s (ur E F n ops rest)))
   rw[h1,R4 hn]
   rw[ku]
   cases hw:cD ops (fi F n r) o with
   | true=>
     rw[if_pos rfl]
     exact Wn hle (I' o.op) hs ih r h y
   | false=>
     rw[if_neg (by simp)]
     show sb E F n ((ur E F n ops rest).run fc (s AV.undef r) h y) _
     simp only[hs]
     exact ih _ _ _
def madeOf:TK→Option Nat
 | .sA n _=>some n
 | _=>none
theorem xg (x:Step) (t:List Step):qR (x::t)=match madeOf x.kind with | none=>qR t | some i=>i::qR t:=by
 show List.filterMap (fun x:Step=>madeOf x.kind) (x::t)=_
 rw[List.filterMap_cons];cases madeOf x.kind<;>rfl
inductive pB (E:Env) (ops:Array Oper) (pl:mE):List O4→List Step→Prop
 | nil:pB E ops pl [] []
 | skip {x:Step} {c:List O4} {t:List Step} (hs:∀h,jN E ops x h=true) (hm:madeOf x.kind=none) (ht:pB E ops pl c t):pB E ops pl c (x::t)
 | Wo {x:Step} {c0:O4} {c:List O4} {t:List Step} (hk:c0.k=x.k) (hl:c0.m=ky pl.bM pl.an x.i+1 - x.k) (hm:madeOf x.kind=c0.made)
  (hs:∀h,c0.f h=true→jN E ops x h=true) (ht:pB E ops pl c t):pB E ops pl (c0::c) (x::t)
theorem pB.made {ops:Array Oper} {pl:mE} {c:List O4} {t:List Step} (h:pB E ops pl c t):M' c=qR t:=by
 induction h with
 | nil=>rfl
 | skip hs hm ht ih=>rw[xg,hm];exact ih
 | Wo hk hl hm hs ht ih=>
   rename_i x c0 c t
   show ob (M' c) (fun i=>i::M' c) c0.made=_
   rw[xg,hm,ih]
   cases c0.made<;>rfl
theorem pB.all {ops:Array Oper} {pl:mE} {hs:List aA} {c:List O4} {t:List Step} (h:pB E ops pl c t) (e:c.all (fun x=>yV x.f (sQ (sP hs x.k) x.m))=true):
 t.all (fun x=>((hs.drop x.k).take (ky pl.bM pl.an x.i+1 - x.k)).all (jN E ops x))=true:=by
 induction h with
 | nil=>rfl
 | skip qW hm ht ih=>
   rw[List.all_cons,ih e,Bool.and_true,List.all_eq_true]
   intro h _;exact qW h
 | Wo hk hl hm qW ht ih=>
   rw[List.all_cons,Bool.and_eq_true] at e
   rw[List.all_cons,ih e.2,Bool.and_true,List.all_eq_true]
   have e1:=e.1
   rw[ri,qm,ql,List.all_eq_true,hk,hl] at e1
   intro h hh;exact qW h (e1 h hh)
theorem BQ {ops:Array Oper} {pl:mE} {hs:List aA} {c:List O4} {t:List Step} (h:pB E ops pl c t) (e:rk c hs=true):qS E ops pl t hs=true:=by
 unfold rk at e
 rw[oO,Bool.and_eq_true,yY,ri,h.made] at e
 unfold qS
 rw[Bool.and_eq_true]
 exact ⟨e.1,h.all e.2⟩
def DB (E:Env) (F:RF) (n:Nat) (ops:Array Oper) (pl:mE) (d:DO F.T) (t:ka):Prop:=match d with
 | .ok tr hs r h y=>∃Ku,t= .ok Ku hs ⟨fi F n r,h,y.ds,y.rc⟩∧pB E ops pl tr Ku
 | .bad=>True
theorem DB.skip {ops:Array Oper} {pl:mE} {d:DO F.T} {t:ka} (h:DB E F n ops pl d t) {x:Step} (hs:∀h,jN E ops x h=true) (hm:madeOf x.kind=none):DB E F n ops pl d (t.step x):=by
 cases d with
 | bad=>trivial
 | ok tr qW r h' y=>
   obtain ⟨Ku,rfl,h2⟩:=h
   exact ⟨x::Ku,rfl,.skip hs hm h2⟩
theorem DB.bound {ops:Array Oper} {pl:mE} {d:DO F.T} {t:ka} (h:DB E F n ops pl d t) (h0:aA):DB E F n ops pl (rj h0 d) (t.bound h0):=by
 cases d with
 | bad=>trivial
 | ok tr qW r h' y=>
   obtain ⟨Ku,rfl,h2⟩:=h
   exact ⟨Ku,rfl,h2⟩
theorem DB.Wo {ops:Array Oper} {pl:mE} {d:DO F.T} {t:ka} (h:DB E F n ops pl d t) {x:Step} {c:O4} (hk:c.k=x.k) (hl:c.m=ky pl.bM pl.an x.i+1 - x.k)
 (hm:madeOf x.kind=c.made) (hs:∀h,c.f h=true→jN E ops x h=true):DB E F n ops pl (EA c d) (t.step x):=by
 cases d with
 | bad=>trivial
 | ok tr qW r h' y=>
   obtain ⟨Ku,rfl,h2⟩:=h
   exact ⟨x::Ku,rfl,.Wo hk hl hm hs h2⟩
theorem Jb:∀(m:Nat) (x y:AV),BG m x y=true→AV.same m x y=true
 | 0,_,_,e=>by cases e
 | m+1,x,y,e=>by
   have ih:=Jb m
   have all:∀(a b:List AV),leq (BG m) a b=true→da (AV.same m) a b=true:=by
    intro a
    induction a with
    | nil=>intro b;cases b<;>intro e<;>first | rfl | cases e
    | cons x tl ihl=>
      intro b
      cases b with
      | nil=>intro e;cases e
      | cons y tm=>
        intro e
        have e:bc (BG m x y) (leq (BG m) tl tm) false=true:=e
        rw[oO,Bool.and_eq_true] at e
        rw[da,Bool.and_eq_true]
        exact ⟨ih _ _ e.1,ihl _ e.2⟩
   cases x with
   | int k a=>cases y with
     | int j b=>
       have e:bc (Rl k j) (XW a b) false=true:=e
       rw[oO,Bool.and_eq_true,Lh] at e
       rw[AV.same,Nd e.1,e.2];simp
     | _=>cases e
   | str a=>cases y with
     | str b=>
       have e:leq By a b=true:=e
       rw[Li] at e
       rw[AV.same];exact e
     | _=>cases e
   | ptr i o=>cases y with
     | ptr j p=>
       have e:bc (Nat.beq i j) (Nat.beq o p) false=true:=e
       rw[oO,Bool.and_eq_true] at e
       rw[AV.same,mG e.1,mG e.2];simp
     | _=>cases e
   | bool a=>cases y with
     | bool b=>
       have e:bc a b (vH b)=true:=e
       rw[AV.same]
       cases a<;>cases b<;>first | rfl | cases e
     | _=>cases e
   | agg a=>cases y with
     | agg b=>rw[AV.same];exact all a b e
     | _=>cases e
   | _=>exact e
theorem BR (hn:n≤F.N) {fc call:bh} (hle:kE fc call) (ops:Array Oper) (pl:mE):∀(l:List Nat) (k:Nat) (r:F.T) (h:aA) (y:Y),
 DB E F n ops pl ((jG E F n ops pl l k).run fc r h y) (cT E call ops l k ⟨fi F n r,h,y.ds,y.rc⟩)
 | [],k,r,h,y=>⟨[],rfl,.nil⟩
 | i::rest,k,r,h,y=>by
   have ih:=BR hn hle ops pl rest
   rw[cT]
   show DB E F n ops pl (D.run (ob ⟨fun _ _ _ _=> .bad⟩ (fun o=>wS F n o.dst fun s=>
    bc (qj E o.op) (canon (k+1) fun k'=>zL F n ops o (M8 (ve E F n o.op) s (jG E F n ops pl rest k')) (Lg s (jG E F n ops pl rest k')))
     (canon (AZ pl.bM pl.an i+1 - k) fun m=>zL F n ops o (M9 k m (ve E F n o.op) s (jG E F n ops pl rest k)) (RB s (jG E F n ops pl rest k)))) (ju ops.toList i)) fc r h y) _
   rw[gY,Array.getElem?_toList]
   cases ho:ops[i]? with
   | none=>trivial
   | some o=>
     have gL:(ops.getD i default).op=o.op:=by rw[Array.getD_eq_getD_getElem?,ho];rfl
     simp only[V4,lM,sU,Lc]
     obtain ⟨s,h1,hs⟩:=Nj F n hn o.dst (fun s=>
      bc (fI E o.op) (zL F n ops o (M8 (ve E F n o.op) s (jG E F n ops pl rest (k+1))) (Lg s (jG E F n ops pl rest (k+1))))
      (zL F n ops o (M9 k (ky pl.bM pl.an i+1 - k) (ve E F n o.op) s (jG E F n ops pl rest k)) (RB s (jG E F n ops pl rest k))))
     rw[h1]
     have hk:=I' (E:=E) (F:=F) (n:=n) o.op
     generalize ve E F n o.op=kd at hk
     cases he:fI E o.op with
     | true=>
       rw[jH,Ja hn,if_pos rfl]
       cases hw:cD ops (fi F n r) o with
       | false=>
         rw[if_neg (by simp)]
         show DB E F n ops pl (rj h ((jG E F n ops pl rest (k+1)).run fc (s AV.undef r) h y)) _
         simp only[hs]
         exact ((ih _ _ _ _).bound h).skip (fun _=>rfl) rfl
       | true=>
         rw[if_pos rfl]
         show DB E F n ops pl ((M8 kd s (jG E F n ops pl rest (k+1))).run fc r h y) _
         cases kd with
         | wr f=>
           show DB E F n ops pl (ob .bad (fun p=>rj h ((jG E F n ops pl rest (k+1)).run fc (s p.1 r) p.2 y)) (f r h)) _
           cases hf:f r h with
           | none=>trivial
           | some p=>
             simp only[hk.2 call r h y.rc o p rfl hf,hs]
             exact ((ih _ _ _ _).bound h).skip (fun _=>rfl) rfl
         | call g args=>
           show DB E F n ops pl (jB.rec (motive:=fun _=>DO F.T) (fun v h'=>rj h ((jG E F n ops pl rest (k+1)).run fc (s v r) h' y)) (fun _ _=> .bad) (fun _ _=> .bad) (fc g (args r) h)) _
           cases hc:fc g (args r) h with
           | fail _ _=>trivial
           | panic _ _=>trivial
           | ret v h'=>
             simp only[hk.2 call r h y.rc o rfl,(hle _ _ _).1 v h' hc,nf,hs]
             exact ((ih _ _ _ _).bound h).skip (fun _=>rfl) rfl
         | uE f=>
           show DB E F n ops pl (yE.rec (motive:=fun _=>DO F.T) (fun v h'=>rj h ((jG E F n ops pl rest (k+1)).run fc (s v r) h' y)) (fun _=> .bad) (fun _=> .bad) (fun _ _=> .bad) (fun _ _=> .bad) (f fc r h y.rc)) _
           have h2:=hk.2 fc call hle r h y.rc o rfl
           cases hf:f fc r h y.rc with
           | val v h'=>
             rw[hf] at h2
             have h2:dm E call (fi F n r) h y.rc o= .val v h':=h2
             simp only[h2,hs]
             exact ((ih _ _ _ _).bound h).skip (fun _=>rfl) rfl
           | _=>trivial
         | _=>trivial
     | false=>
       rw[dY,Ja hn,if_neg (by simp)]
       cases hw:cD ops (fi F n r) o with
       | false=>
         rw[if_neg (by simp)]
         show DB E F n ops pl ((jG E F n ops pl rest k).run fc (s AV.undef r) h y) _
         simp only[hs]
         exact (ih _ _ _ _).skip (fun _=>rfl) rfl
       | true=>
         rw[if_pos rfl]
         show DB E F n ops pl ((M9 k (ky pl.bM pl.an i+1 - k) kd s (jG E F n ops pl rest k)).run fc r h y) _
         cases kd with
         | H2 g=>
           simp only[hk r,hs]
           exact (ih _ _ _ _).skip (fun _=>rfl) rfl
         | gS f=>
           show DB E F n ops pl (ob .bad (fun v=>(jG E F n ops pl rest k).run fc (s v r) h y) (f r)) _
           cases hf:f r with
           | none=>trivial
           | some v=>
             simp only[hk r v hf,hs]
             exact (ih _ _ _ _).skip (fun _=>rfl) rfl
         | red f=>
           show DB E F n ops pl (ob .bad (fun v=>EA ⟨k,_,none,fun h'=>ob false (fun v'=>BG 20 v' v) (f r h')⟩ ((jG E F n ops pl rest k).run fc (s v r) h y)) (f r h)) _
           cases hf:f r h with
           | none=>trivial
           | some v=>
             rcases hk r h v hf with q0 | ⟨q0,q1⟩
             · simp only[q0,hs]
               exact (ih _ _ _ _).Wo rfl rfl rfl fun h' _=>rfl
             simp only[q0,q1,hs]
             refine (ih _ _ _ _).Wo rfl rfl rfl fun h' e=>?_
             have e:ob false (fun v'=>BG 20 v' v) (f r h')=true:=e
             cases ZL:f r h' with
             | none=>rw[ZL] at e;cases e
             | some v'=>
               rw[ZL] at e
               rcases hk r h' v' ZL with q2 | ⟨_,q3⟩
               · rw[q0] at q2;cases q2
               simp only[jN,gL,q3]
               exact Jb 20 v' v e
         | sA f=>
           obtain ⟨h3,h4,h5⟩:=hk
           show DB E F n ops pl (ob .bad (fun p=>ob .bad (fun h'=>EA ⟨k,_,some h.nx,fun M_=>ob false (fun o=>aX.same o p.1) (M_.get h.nx)⟩ ((jG E F n ops pl rest k).run fc (s (p.2 h.nx) r) h' y)) (h.new p.1)) (f r)) _
           cases hf:f r with
           | none=>trivial
           | some p=>
             obtain ⟨obj,mk⟩:=p
             show DB E F n ops pl (ob .bad (fun h'=>EA ⟨k,_,some h.nx,fun M_=>ob false (fun o=>aX.same o obj) (M_.get h.nx)⟩ ((jG E F n ops pl rest k).run fc (s (mk h.nx) r) h' y)) (h.new obj)) _
             cases hh:h.new obj with
             | none=>trivial
             | some h'=>
               simp only[h3,h4,h5 r _ hf,hh,hs]
               refine (ih _ _ _ _).Wo rfl rfl rfl fun M_ e=>?_
               have e:ob false (fun o=>aX.same o obj) (M_.get h.nx)=true:=e
               cases ZL:M_.get h.nx with
               | none=>rw[ZL] at e;cases e
               | some o'=>
                 rw[ZL] at e
                 simp only[jN,ZL]
                 exact e
         | _=>trivial
theorem R5 {fc call:bh} (hle:kE fc call) {ts:List AV} {h h':aA} {rc:RC} {dst:Option Tmp} {c:Call} {ty:TypeId} {pos:String} {after:Array Edge} {guard:Option (Nat×Bool)} {v:AV} (e:dm E fc ts h rc ⟨dst,.call c,ty,pos,after,guard⟩= .panic v h'):
 dm E call ts h rc ⟨dst,.call c,ty,pos,after,guard⟩= .panic v h':=by
 obtain ⟨cz,args,aT⟩:=c
 cases cz with
 | builtin b=>
   cases b<;>simp only[dm] at e<;>(try (simp at e;done))<;>(split at e<;>(try (simp at e;done))<;>(try (split at e<;>simp at e)))
 | value f=>
   simp only[dm] at e ⊢
   split at e
   · split at e
     · split at e<;>simp at e
     · split at e
       · simp at e
       · rename_i hc
         simp at e;obtain ⟨rfl,rfl⟩:=e
         simp only[(hle _ _ _).2 _ _ hc]
       · simp at e
   · simp at e
 | invoke x name=>
   simp only[dm] at e ⊢
   split at e
   · split at e
     · split at e
       · simp at e
       · rename_i hc
         simp at e;obtain ⟨rfl,rfl⟩:=e
         simp only[(hle _ _ _).2 _ _ hc]
       · simp at e
     · simp at e
   · simp at e
theorem pB.snoc {ops:Array Oper} {pl:mE} {c:List O4} {t:List Step} (h:pB E ops pl c t) {x:Step} (hs:∀h,jN E ops x h=true) (hm:madeOf x.kind=none):pB E ops pl c (t++[x]):=by
 induction h with
 | nil=>exact .skip hs hm .nil
 | skip a b _ ih=>exact .skip a b ih
 | Wo a b d e _ ih=>exact .Wo a b d e ih
theorem Wq (hn:n≤F.N) {fc call:bh} (hle:kE fc call) (ops:Array Oper) (pl:mE) (r:F.T) (h:aA) (y:Y):
 sb E F n (V2 E F n ops pl fc r h y) (match cT E call ops pl.order 0 ⟨fi F n r,h,y.ds,y.rc⟩ with
  | .ok tr hs s'=>if qS E ops pl tr hs then .ok .normal s' else .fail "still" (ops[0]?)
  | .fail why o=>match A_ E call ops ⟨fi F n r,h,y.ds,y.rc⟩ pl with
    | some (v,s2)=> .ok (.panic v) s2
    | none=> .fail why o):=by
 unfold V2
 split
 · trivial
 rename_i i front VF
 split
 · rename_i tr hs r1 h1 y1 dst c ty pos after guard hd ho
   split
   · rename_i v h' FV Q5
     split
     · rename_i hl
       have hk:=BR (E:=E) hn hle ops pl front.reverse 0 r h y
       rw[hd] at hk
       obtain ⟨Ku,e1,e2⟩:=hk
       have Q1:pl.order=front.reverse++[i]:=by
        have:=congrArg List.reverse VF
        simpa using this
       have acA:=R5 hle Q5
       have OJ:=FV
       simp only[Bool.and_eq_true] at OJ
       obtain ⟨why,q,e3⟩:=yQ ho OJ.1.1 front.reverse 0 _ e1 OJ.1.2 acA
       rw[Q1,e3]
       have Q6:A_ E call ops ⟨fi F n r,h,y.ds,y.rc⟩ pl=some (v,⟨fi F n r1,h',y1.ds,y1.rc⟩):=by
        unfold A_
        rw[VF]
        simp only[e1,ho,FV,if_true,acA]
        rw[if_pos (BQ (e2.snoc (fun _=>rfl) rfl) hl)]
       simp only[Q6]
       exact ⟨by simp,rfl⟩
     · trivial
   · trivial
 · trivial
theorem R6 (hn:n≤F.N) {fc call:bh} (hle:kE fc call) (ops:Array Oper) (r:F.T) (h:aA) (y:Y):
 sb E F n ((Na E F n ops).run fc r h y) (wC E call ops ⟨fi F n r,h,y.ds,y.rc⟩):=by
 unfold Na wC
 rw[Rv]
 cases sy E ops with
 | none=>trivial
 | some pl=>
   show sb E F n (DO.rec (motive:=fun _=>FO F.T) (fun tr hs r' h' y'=>bc (rk tr hs) (.IX r' h' y') .bad) (V2 E F n ops pl fc r h y) ((jG E F n ops pl pl.order 0).run fc r h y)) _
   have:=BR (E:=E) hn hle ops pl pl.order 0 r h y
   cases hd:(jG E F n ops pl pl.order 0).run fc r h y with
   | bad=>exact Wq hn hle ops pl r h y
   | ok tr hs r' h' y'=>
     rw[hd] at this
     obtain ⟨Ku,h1,h2⟩:=this
     show sb E F n (bc (rk tr hs) (.IX r' h' y') .bad) _
     cases hl:rk tr hs with
     | false=>trivial
     | true=>
       simp only[h1]
       rw[if_pos (BQ h2 hl)]
       rfl
end Go.Ab.Fa
end
section
namespace Go.Ab.Fa
variable {E:Env} {F:RF} {n:Nat}
theorem Jc {fc call:bh} (hle:kE fc call) {f:Operand} {ps:Array Tmp} {as_ bd:Code} {s:St} {e:iB} {s':St} (h:lN E fc f ps as_ bd s= .ok e s'):lN E call f ps as_ bd s= .ok e s':=by
 unfold lN at h ⊢
 split at h
 case h_2=>cases h
 rename_i g first captured hv
 split at h
 case h_2=>cases h
 rename_i dn h1 Y0 ho
 split at h
 case h_2=>cases h
 rename_i h2 hn
 cases hc:fc (.fn g) (first++[.cE h1.nx]++captured) h2 with
 | ret v h3=>rw[hc] at h;rw[(hle _ _ _).1 _ _ hc];exact h
 | panic v h3=>rw[hc] at h;rw[(hle _ _ _).2 _ _ hc];exact h
 | fail why q=>rw[hc] at h;cases h
theorem Pc {call:bh} {f:Operand} {ps:Array Tmp} {as_ bd:Code} {s:St} {e:iB} {s':St} (h:lN E call f ps as_ bd s= .ok e s'):s'.ts=s.ts:=by
 unfold lN at h
 split at h
 case h_2=>cases h
 split at h
 case h_2=>cases h
 split at h
 case h_2=>cases h
 split at h
 · split at h
   · cases h
   · split at h
     · simp only[Out.ok.injEq] at h;rw[←h.2]
     · cases h
   · cases h
 · simp only[Out.ok.injEq] at h;rw[←h.2]
 · cases h
theorem R7 {o:FO F.T} {out:Out} (h:sb E F n o out) {k:F.T→aA→Y→FO F.T} {g:St→Out} (hk:∀r h y,sb E F n (k r h y) (g ⟨fi F n r,h,y.ds,y.rc⟩)):
 sb E F n (fo k .jmp .bad o) (match (generalizing:=false) out with | .ok .normal s'=>g s' | r=>r):=by
 cases o with
 | IX r h' y=>rw[show out=_ from h];exact hk r h' y
 | jmp e r h' y=>
   obtain ⟨h1,h2⟩:=h
   rw[h2]
   cases e with
   | normal=>exact absurd rfl h1
   | _=>exact ⟨by simp,rfl⟩
 | bad=>trivial
theorem lS (hn:n≤F.N) {fc call:bh} (hle:kE fc call):∀(c:Code) (m:Nat) (r:F.T) (h:aA) (y:Y),
 sb E F n ((ng E F n c).run m fc r h y) (exec E call m c ⟨fi F n r,h,y.ds,y.rc⟩)
 | .skip,m,r,h,y=>by cases m with
   | zero=>trivial
   | succ m=>exact rfl
 | .label _,m,r,h,y=>by cases m with
   | zero=>trivial
   | succ m=>exact rfl
 | .ret,m,r,h,y=>by cases m with
   | zero=>trivial
   | succ m=>exact ⟨by simp,rfl⟩
 | .exit id,m,r,h,y=>by cases m with
   | zero=>trivial
   | succ m=>exact ⟨by simp,rfl⟩
 | .region _ ops draw,m,r,h,y=>by
   cases m with
   | zero=>cases draw<;>trivial
   | succ m=>cases draw with
     | true=>exact R6 hn hle ops r h y
     | false=>exact BP hn hle ops ops.toList r h y
 | .seq a b,m,r,h,y=>by cases m with
   | zero=>trivial
   | succ m=>
     have h1:=lS hn hle a m r h y
     have h2:=lS hn hle b m
     exact R7 h1 (g:=fun s'=>exec E call m b s') h2
 | .cond x a b,m,r,h,y=>by
   have ha:=lS hn hle a
   have hb:=lS hn hle b
   show sb E F n (C.run (wO E F n x (fun g=>⟨fun m call r h y=>nS .bad (fun i=>jP (fun t=>bc t ((ng E F n a).run i call r h y) ((ng E F n b).run i call r h y)) .bad (g r)) m⟩) ⟨fun _ _ _ _ _=> .bad⟩) m fc r h y) _
   rcases b7 E F n x (fun g=>(⟨fun m call r h y=>nS .bad (fun i=>jP (fun t=>bc t ((ng E F n a).run i call r h y) ((ng E F n b).run i call r h y)) .bad (g r)) m⟩:C F.T)) ⟨fun _ _ _ _ _=> .bad⟩ with hw | ⟨g,hw,hg⟩<;>rw[hw]
   · trivial
   cases m with
   | zero=>trivial
   | succ m=>
     show sb E F n (jP (fun t=>bc t ((ng E F n a).run m fc r h y) ((ng E F n b).run m fc r h y)) .bad (g r)) _
     rw[exec]
     simp only[hg]
     cases g r with
     | bool t=>cases t with
       | true=>exact ha m r h y
       | false=>exact hb m r h y
     | _=>trivial
 | .block id b,m,r,h,y=>by cases m with
   | zero=>trivial
   | succ m=>
     have hb:=lS hn hle b m r h y
     show sb E F n (fo .IX (fun e r' h' y'=>RE (fun j=>bc (Nat.beq j id) (.IX r' h' y') (.jmp e r' h' y')) (.jmp e r' h' y') e) .bad ((ng E F n b).run m fc r h y)) _
     rw[exec]
     cases hr:(ng E F n b).run m fc r h y with
     | bad=>trivial
     | IX r' h' y'=>
       rw[hr] at hb
       have hb:exec E call m b _= .ok .normal ⟨fi F n r',h',y'.ds,y'.rc⟩:=hb
       rw[hb];exact rfl
     | jmp e r' h' y'=>
       rw[hr] at hb
       obtain ⟨h1,h2⟩:=hb
       rw[h2]
       cases e with
       | normal=>exact absurd rfl h1
       | exit j=>
         show sb E F n (bc (Nat.beq j id) (.IX r' h' y') (.jmp (.exit j) r' h' y')) (if j=id then _ else _)
         cases hj:Nat.beq j id with
         | true=>rw[if_pos (mG hj)];exact rfl
         | false=>rw[if_neg (by intro e;rw[e,Nat.beq_refl] at hj;cases hj)];exact ⟨by simp,rfl⟩
       | ret=>exact ⟨by simp,rfl⟩
       | panic v=>exact ⟨by simp,rfl⟩
 | .loop b,m,r,h,y=>by
   have hb:=lS hn hle b
   show sb E F n (RG (ng E F n b) m fc r h y) _
   induction m generalizing r h y with
   | zero=>trivial
   | succ m ih=>
     show sb E F n (fo (fun r' h' y'=>RG (ng E F n b) m fc r' h' y') .jmp .bad ((ng E F n b).run m fc r h y)) _
     exact R7 (hb m r h y) (g:=fun s'=>exec E call m (.loop b) s') ih
 | .rangeFunc f ps as_ bd,m,r,h,y=>by
   show sb E F n ((V3 (Gq E F n f ps as_ bd)).run m fc r h y) _
   cases m with
   | zero=>trivial
   | succ m=>
     show sb E F n ((Gq E F n f ps as_ bd).run fc r h y) (lN E call f ps as_ bd ⟨fi F n r,h,y.ds,y.rc⟩)
     unfold Gq
     rcases b7 E F n f (fun _=>(⟨fun call r h y=>X2 r (lN E call f ps as_ bd ⟨fi F n r,h,y.ds,y.rc⟩)⟩:I F.T)) ⟨fun _ _ _ _=> .bad⟩ with hw | ⟨g,hw,_⟩<;>rw[hw]
     · trivial
     simp only
     cases hr:lN E fc f ps as_ bd ⟨fi F n r,h,y.ds,y.rc⟩ with
     | fail _ _=>trivial
     | ok e s=>
       rw[Jc hle hr]
       have ht:=Pc hr
       obtain ⟨ts,hh,ds,rc⟩:=s
       simp only at ht
       subst ht
       cases e with
       | normal=>exact rfl
       | _=>exact ⟨by simp,rfl⟩
 | .scope b,m,r,h,y=>by cases m with
   | zero=>trivial
   | succ m=>exact lS hn hle b m r h y
 | .goto _,m,r,h,y=>trivial
 | .refuse _,m,r,h,y=>trivial
theorem xh:∀(l:List ResultVar) (r:F.T) (h:aA) (vs:List AV),(za E F n l).f r h=some vs→jL E h (fi F n r) l=some vs
 | [],r,h,vs,e=>e
 | .tmp t::rest,r,h,vs,e=>by
   rw[za] at e
   obtain ⟨g,h1,h2⟩:=Gt F n t (fun g=>wW (za E F n rest) fun k=>(⟨fun r h=>ob none (fun vs=>some (g r::vs)) (k r h)⟩:W (F.T→aA→Option (List AV))))
   rw[h1] at e
   obtain ⟨qX,h3,h4⟩:=gN (show ob none (fun vs=>some (g r::vs)) ((za E F n rest).f r h)=some vs from e)
   rw[jL]
   simp only[h2,xh rest r h qX h3]
   exact h4
 | .cell a t::rest,r,h,vs,e=>by
   rw[za] at e
   obtain ⟨g,h1,h2⟩:=Gt F n a (fun g=>wW (za E F n rest) fun k=>(⟨fun r h=>ob none (fun v=>ob none (fun vs=>some (v::vs)) (k r h)) (bk E h t (g r))⟩:W (F.T→aA→Option (List AV))))
   rw[h1] at e
   obtain ⟨v,h3,h4⟩:=gN (show ob none (fun v=>ob none (fun vs=>some (v::vs)) ((za E F n rest).f r h)) (bk E h t (g r))=some vs from e)
   obtain ⟨qX,h5,h6⟩:=gN h4
   rw[jL]
   simp only[h2,h3,xh rest r h qX h5]
   exact h6
def BOk (E:Env) (rs:List ResultVar) (b:BO) (out:Out):Prop:=match b with
 | .fin res h y=>∃e ts,(e= .normal∨e= .ret)∧out= .ok e ⟨ts,h,y.ds,y.rc⟩∧∀h' vs,res h'=some vs→jL E h' ts rs=some vs
 | .pan v res h y=>∃ts,out= .ok (.panic v) ⟨ts,h,y.ds,y.rc⟩∧∀h' vs,res h'=some vs→jL E h' ts rs=some vs
 | .bad=>True
theorem Jd {fc call:bh} (hle:kE fc call) (F:RF) (fn:Func) (hn:fn.ntmps≤F.N) (b:Code) (fuel:Nat) (args:List AV) (h:aA) (rc:RC):
 BOk E fn.results.toList ((RH E F fn.ntmps fn b).run fuel fc args h rc) (mZ E call fuel fn b args h rc):=by
 show BOk E _ (bc (Nat.ble (jt args) fn.ntmps)
  (fo (fun r h' y=> .fin ((za E F fn.ntmps fn.results.toList).f r) h' y) (fun e r h' y=>iB.rec (motive:=fun _=>BO) .bad (fun _=> .bad) (.fin ((za E F fn.ntmps fn.results.toList).f r) h' y) (fun v=> .pan v ((za E F fn.ntmps fn.results.toList).f r) h' y) e) .bad
   ((ng E F fn.ntmps b).run fuel fc (Qm F args F.z 0) h ⟨[],rc⟩)) .bad) _
 cases hl:Nat.ble (jt args) fn.ntmps with
 | false=>trivial
 | true=>
   have hl:=fN hl
   rw[fS] at hl
   have:=lS (E:=E) hn hle b fuel (Qm F args F.z 0) h ⟨[],rc⟩
   rw[MY F fn.ntmps hn args hl] at this
   rw[jH]
   unfold mZ
   cases hr:(ng E F fn.ntmps b).run fuel fc (Qm F args F.z 0) h ⟨[],rc⟩ with
   | bad=>trivial
   | IX r h' y=>
     rw[hr] at this
     exact ⟨.normal,_,.inl rfl,this,fun M_ vs e=>xh _ r M_ vs e⟩
   | jmp e r h' y=>
     rw[hr] at this
     obtain ⟨h1,h2⟩:=this
     cases e with
     | normal=>exact absurd rfl h1
     | exit _=>trivial
     | ret=>exact ⟨.ret,_,.inr rfl,h2,fun M_ vs e=>xh _ r M_ vs e⟩
     | panic v=>exact ⟨_,h2,fun M_ vs e=>xh _ r M_ vs e⟩
theorem Je {fc call:bh} (hle:kE fc call) (f:FuncId) (fuel:Nat) (args:List AV) (h:aA) (rc:RC):
 (zM E f).run fuel fc args h rc= .bad∨∃fn b,E.P.funcs[f]? =some fn∧fn.body=some b∧BOk E fn.results.toList ((zM E f).run fuel fc args h rc) (mZ E call fuel fn b args h rc):=by
 unfold zM
 rw[VU]
 cases hf:E.P.funcs[f]? with
 | none=>exact .inl rfl
 | some fn=>
   simp only
   cases hb:fn.body with
   | none=>exact .inl rfl
   | some b=>
     refine .inr ⟨fn,b,rfl,hb,?_⟩
     simp only
     cases h1:Nat.ble fn.ntmps 64 with
     | true=>exact Jd hle rf2 fn (fN h1) b fuel args h rc
     | false=>cases h2:Nat.ble fn.ntmps 512 with
       | true=>exact Jd hle rf3 fn (fN h2) b fuel args h rc
       | false=>trivial
theorem sY {fc call:bh} (hle:kE fc call) {fuel:Nat} {c:Code} {s:St} {e:iB} {s':St} (h:Nc E fc fuel c s= .ok e s'):exec E call fuel c s= .ok e s':=by
 have key:∀F:RF,s.ts.length≤F.N→Nb E F fc fuel c s= .ok e s'→exec E call fuel c s= .ok e s':=by
  intro F hn hx
  have:=lS (E:=E) hn hle c fuel (Qm F s.ts F.z 0) s.h ⟨s.ds,s.rc⟩
  rw[MY F s.ts.length hn s.ts (Nat.le_refl _),Nat.sub_self,List.replicate_zero,List.append_nil] at this
  unfold Nb at hx
  cases hr:(ng E F s.ts.length c).run fuel fc (Qm F s.ts F.z 0) s.h ⟨s.ds,s.rc⟩ with
  | bad=>rw[hr] at hx;cases hx
  | IX r h' y=>rw[hr] at hx this;rw[show exec E call fuel c s=_ from this];exact hx
  | jmp e' r h' y=>rw[hr] at hx this;rw[show exec E call fuel c s=_ from this.2];exact hx
 unfold Nc at h
 cases h1:Nat.ble s.ts.length 64 with
 | true=>rw[h1] at h;exact key rf2 (fN h1) h
 | false=>cases h2:Nat.ble s.ts.length 512 with
   | true=>rw[h1,h2] at h;exact key rf3 (fN h2) h
   | false=>rw[h1,h2] at h;cases h
noncomputable def GC (E:Env) (call:bh) (fuel:Nat) (g:FuncId) (as_:List AV) (h:aA) (rc:RC):Option (aA×RC):=match E.P.funcs[g]? with
 | none=>none
 | some fg=>match fg.body with
   | none=>none
   | some bg=>match mZ E call fuel fg bg as_ h rc with
     | .ok .normal s'=>if s'.ds.isEmpty&&(jL E s'.h s'.ts fg.results.toList).isSome then some (s'.h,s'.rc) else none
     | .ok .ret s'=>if s'.ds.isEmpty&&(jL E s'.h s'.ts fg.results.toList).isSome then some (s'.h,s'.rc) else none
     | _=>none
theorem R8 {fc call:bh} (hle:kE fc call) {fuel:Nat} {g:FuncId} {as_:List AV} {h:aA} {rc:RC} {p:aA×RC} (e:iG E fc fuel g as_ h rc=some p):GC E call fuel g as_ h rc=some p:=by
 unfold iG at e
 rcases Je (E:=E) hle g fuel as_ h rc with h1 | ⟨fn,b,h1,h2,h3⟩
 · rw[h1] at e;cases e
 · unfold GC
   rw[h1];simp only;rw[h2];simp only
   cases hr:(zM E g).run fuel fc as_ h rc with
   | bad=>rw[hr] at e;cases e
   | pan v res h' y=>rw[hr] at e;cases e
   | fin res h' y=>
     rw[hr] at e h3
     obtain ⟨x,ts,h4,h5,h6⟩:=h3
     obtain ⟨h7,e1⟩:=fM (show bc y.ds.isEmpty (ob none (fun _=>some (h',y.rc)) (res h')) none=some p from e)
     obtain ⟨vs,h8,e2⟩:=gN e1
     rw[h5]
     rcases h4 with rfl | rfl
     · simp only[h7,h6 h' vs h8,Option.isSome_some,Bool.and_self,if_true];exact e2
     · simp only[h7,h6 h' vs h8,Option.isSome_some,Bool.and_self,if_true];exact e2
theorem lT {f g:FuncId→List AV→aA→RC→Option (aA×RC)} (hfg:∀k as_ h rc p,f k as_ h rc=some p→g k as_ h rc=some p):∀(ds:List oB) (p:Option AV) (h:aA) {q:Option AV×aA},cN f ds p h=some q→cN g ds p h=some q
 | [],p,h,q,e=>by cases p<;>exact e
 | .pj r::ds,p,h,q,e=>by
   rw[cN] at e ⊢
   split at e
   · exact lT hfg ds p _ e
   · cases e
 | .call k as_::ds,none,h,q,e=>by
   rw[cN] at e ⊢
   cases hf:f k as_ h .no with
   | none=>rw[hf] at e;cases e
   | some p=>rw[hf] at e;rw[hfg _ _ _ _ _ hf];obtain ⟨h',VI⟩:=p;exact lT hfg ds none h' e
 | .call k as_::ds,some v,h,q,e=>by
   rw[cN] at e ⊢
   cases hf:f k as_ h (.ir v) with
   | none=>rw[hf] at e;cases e
   | some p=>
     rw[hf] at e;rw[hfg _ _ _ _ _ hf];obtain ⟨h',VI⟩:=p
     cases VI with
     | ir w=>exact lT hfg ds _ h' e
     | done=>exact lT hfg ds _ h' e
     | _=>cases e
theorem Pd {fc call:bh} (hle:kE fc call) (fuel:Nat) (l:Nat) (args:List AV) (h:aA):(∀v h',BH E fc fuel l args h= .ret v h'→qT E call fuel l args h= .ret v h')∧∀v h',BH E fc fuel l args h= .panic v h'→qT E call fuel l args h= .panic v h':=by
 have key:∀out:jB,(∀why o,out≠ .fail why o)→BH E fc fuel l args h=out→qT E call fuel l args h=out:=by
  intro out qc e
  unfold BH at e
  unfold qT
  split at e
  case h_2=>exact absurd e.symm (qc _ _)
  rename_i st pd ts ps as_ bd dn hg
  rw[hg]
  simp only
  by_cases ha:args.length=ps.length
  · rw[if_pos ha] at e ⊢
    split at e
    · rename_i s1 h1
      rw[sY hle h1]
      simp only
      split at e
      · rename_i pd UW QB P9 UX UY hg2
        rw[hg2]
        simp only
        split at e
        · rename_i s2 h2;rw[sY hle h2];exact e
        · rename_i s2 h2;rw[sY hle h2];exact e
        · rename_i id s2 h2;rw[sY hle h2];exact e
        · rename_i v s2 h2;rw[sY hle h2];exact e
        · exact absurd e.symm (qc _ _)
      · exact absurd e.symm (qc _ _)
    · exact absurd e.symm (qc _ _)
    · exact absurd e.symm (qc _ _)
  · rw[if_neg ha] at e;exact absurd e.symm (qc _ _)
 exact ⟨fun v h' e=>key _ (by simp) e,fun v h' e=>key _ (by simp) e⟩
noncomputable def R9 (E:Env) (call:bh) (fuel:Nat) (fn:Func) (p:Option AV) (s:St):jB:=match cN (GC E call fuel) s.ds p s.h with
 | none=> .fail "unwind" none
 | some (some v,h')=> .panic v h'
 | some (none,h')=>match jL E h' s.ts fn.results.toList with
   | some vs=> .ret (fR vs) h'
   | none=> .fail "results" none
theorem Lm (d fuel:Nat) {f:FuncId} {fn:Func} {b:Code} (hf:E.P.funcs[f]? =some fn) (hb:fn.body=some b) (args:List AV) (h:aA):
 gJ E (d+1) fuel (.fn f) args h=(match mZ E (gJ E d fuel) fuel fn b args h .no with
  | .ok .normal s=>R9 E (gJ E d fuel) fuel fn none s
  | .ok .ret s=>R9 E (gJ E d fuel) fuel fn none s
  | .ok (.panic v) s=>R9 E (gJ E d fuel) fuel fn (some v) s
  | .ok (.exit _) _=> .fail "exit" none
  | .fail why o=> .fail (why++ " in " ++fn.name) o):=by
 rw[gJ]
 simp only[hf,hb]
 rfl
theorem No {fc call:bh} (hle:kE fc call) {fuel:Nat} {fn:Func} {p:Option AV} {res:aA→Option (List AV)} {ts:List AV} {h:aA} {y:Y} (DM:∀h' vs,res h'=some vs→jL E h' ts fn.results.toList=some vs) {out:jB} (ho:∀why o,out≠ .fail why o)
 (e:I2 (p.elim (ob (.fail "results" none) (fun vs=>jB.ret (fR vs) h) (res h)) (fun v=> .panic v h)) (I1 E fc fuel p res h y.ds) y.ds=out):R9 E call fuel fn p ⟨ts,h,y.ds,y.rc⟩=out:=by
 unfold R9
 cases hd:y.ds with
 | nil=>
   rw[hd] at e
   cases p with
   | some v=>exact e
   | none=>
     have e:ob (.fail "results" none) (fun vs=>jB.ret (fR vs) h) (res h)=out:=e
     cases hr:res h with
     | none=>rw[hr] at e;exact absurd e.symm (ho _ _)
     | some vs=>
       rw[hr] at e
       simp only[cN,DM h vs hr]
       exact e
 | cons d ds=>
   rw[hd] at e
   have e:I1 E fc fuel p res h (d::ds)=out:=e
   unfold I1 at e
   cases hu:cN (iG E fc fuel) (d::ds) p h with
   | none=>rw[hu] at e;exact absurd e.symm (ho _ _)
   | some q=>
     rw[hu] at e
     have:=lT (g:=GC E call fuel) (fun k as_ h rc p e=>R8 hle e) (d::ds) p h hu
     simp only[this]
     obtain ⟨q1,h'⟩:=q
     cases q1 with
     | some v=>exact e
     | none=>
       have e:ob (.fail "results" none) (fun vs=>jB.ret (fR vs) h') (res h')=out:=e
       cases hr:res h' with
       | none=>rw[hr] at e;exact absurd e.symm (ho _ _)
       | some vs=>rw[hr] at e;simp only[DM h' vs hr];exact e
theorem Jf (fuel:Nat):∀d,kE (zN E d fuel) (gJ E d fuel)
 | 0=>fun _ _ _=>⟨fun _ _ e=>(by cases e),fun _ _ e=>(by cases e)⟩
 | d+1=>by
   have ih:=Jf fuel d
   intro g args h
   cases g with
   | ua l=>exact Pd ih fuel l args h
   | fn f=>
     have key:∀out:jB,(∀why o,out≠ .fail why o)→zN E (d+1) fuel (.fn f) args h=out→gJ E (d+1) fuel (.fn f) args h=out:=by
      intro out ho e
      have e:bo (fun res h' y=>I2 (ob (.fail "results" none) (fun vs=>jB.ret (fR vs) h') (res h')) (I1 E (zN E d fuel) fuel none res h' y.ds) y.ds)
       (fun v res h' y=>I2 (.panic v h') (I1 E (zN E d fuel) fuel (some v) res h' y.ds) y.ds) (.fail "body" none) ((zM E f).run fuel (zN E d fuel) args h .no)=out:=e
      rcases Je (E:=E) ih f fuel args h .no with h1 | ⟨fn,b,h1,h2,h3⟩
      · rw[h1] at e;exact absurd e.symm (ho _ _)
      · rw[Lm d fuel h1 h2]
        cases hr:(zM E f).run fuel (zN E d fuel) args h .no with
        | bad=>rw[hr] at e;exact absurd e.symm (ho _ _)
        | fin res h' y=>
          rw[hr] at e h3
          obtain ⟨x,ts,h4,h5,h6⟩:=h3
          have:=No (E:=E) ih (fn:=fn) (p:=none) h6 ho e
          rw[h5]
          rcases h4 with rfl | rfl<;>exact this
        | pan v res h' y=>
          rw[hr] at e h3
          obtain ⟨ts,h5,h6⟩:=h3
          have:=No (E:=E) ih (fn:=fn) (p:=some v) h6 ho e
          rw[h5];exact this
     exact ⟨fun v h' e=>key _ (by simp) e,fun v h' e=>key _ (by simp) e⟩
theorem BS {d fuel:Nat} {f:FuncId} {args:List AV} {h h':aA} {v:AV} (e:zN E d fuel (.fn f) args h= .ret v h'):gJ E d fuel (.fn f) args h= .ret v h':=
 (Jf fuel d _ _ _).1 v h' e
end Go.Ab.Fa
end
section
namespace Go.Ab
structure ahs (P:Program) (f:FuncId) (e:Array Value→Sem Value):Prop where
 at':∃fn,P.funcs[f]? =some fn∧(fn.name== "runtime.NumGoroutine")=false∧fn.body.isNone=true∧Extern.findNext fn=none∧Extern.find fn=some e
section
open Fa
noncomputable def l3 {R:Type} (f:AV→AV→AV→R) (d:R) (l:List AV):R:=
 List.rec (motive:=fun _=>R) d (fun a tl _=>List.rec (motive:=fun _=>R) d (fun b tl _=>List.rec (motive:=fun _=>R) d (fun c tl _=>List.rec (motive:=fun _=>R) (f a b c) (fun _ _ _=>d) tl) tl) tl) l
noncomputable def l2 {R:Type} (f:AV→AV→R) (d:R) (l:List AV):R:=
 List.rec (motive:=fun _=>R) d (fun a tl _=>List.rec (motive:=fun _=>R) d (fun b tl _=>List.rec (motive:=fun _=>R) (f a b) (fun _ _ _=>d) tl) tl) l
noncomputable def n3 (f:Nat→Nat→Nat→Option AV):List AV→Option AV:=
 l3 (fun a b c=>oM (fun _ x=>oM (fun _ y=>oM (fun _ z=>lq (fun x=>lq (fun y=>lq (fun z=>f x y z) none z) none y) none x) none c) none b) none a) none
end
open Fa
end Go.Ab
end
section
namespace Go.Ab
open Go.Maps Go.WideElems Go.RowKit Go.Proofs
section
open Fa
noncomputable def l1 {R:Type} (f:AV→R) (d:R) (l:List AV):R:=List.rec (motive:=fun _=>R) d (fun a tl _=>List.rec (motive:=fun _=>R) (f a) (fun _ _ _=>d) tl) l
end
open Fa
theorem OK.later {E:Env} {φ:Ph} {h:aA} {w w':World} (ok:OK E φ h w) (b:Below w.heap.size w w'):OK E φ h w'∧Fr φ h w φ h w':=by
 have hblk:∀j p m,h.get j=some p→φ j=some m→m.eg<w.heap.size:=fun j p m hj hm=>by
  have AY:=ok.live j p m hj hm
  rcases Nat.lt_or_ge m.eg w.heap.size with a | a
  · exact a
  · exfalso
    rw[Array.getElem?_eq_none a] at AY
    exact AY.absurd
 refine ⟨⟨ok.Aw,ok.nx,ok.vr,fun i o l h1 h2=>?_,ok.inj⟩,⟨Ph.le_refl φ,fun _ _=>rfl,Nat.le_refl _,b.os,b.tape,b.output,b.size,fun c hc _=>b.block c hc,fun i o l h1 h2 h3=> .inr ⟨i,o,l,h1,h2,h3,rfl⟩⟩⟩
 rw[b.block _ (hblk i o l h1 h2)]
 exact ok.live i o l h1 h2
end Go.Ab
end
section
namespace Go.Ab
structure Wr where
 g:Nat
 k:IntKind
 ns:List Nat
 t:TypeId
def Wr.cells (x:Wr):List AV:=x.ns.map fun n=>AV.int x.k (Int.ofNat n)
noncomputable def lU (G:Nat):List Wr→aA
 | []=>⟨HT.nil,G,fun _=>none⟩
 | x::xs=>(lU G xs).put x.g (some (.cells x.cells x.t true))
theorem Np (i:Nat) (G:Nat):(aA.mk HT.nil G fun _=>none).get i=none:=by
 by_cases hi:i<262144
 · rw[aA.vt hi]
   rw[Bb hi,yG,Ba]
   simp only[HT.nil,AT]
 · rw[aA.qU hi]
theorem ze (G:Nat):∀l,(lU G l).nx=G
 | []=>rfl
 | _::xs=>ze G xs
theorem rn {G:Nat}:∀{l:List Wr} {i:Nat} {o:aX},(lU G l).get i=some o→∃x∈l,x.g=i∧o= .cells x.cells x.t true
 | [],i,o,e=>by rw[lU,Np] at e;cases e
 | x::xs,i,o,e=>by
   rw[lU] at e
   by_cases h:x.g=i
   · subst h
     rw[aA.ck] at e
     exact ⟨x,by simp,rfl,(Option.some.inj e).symm⟩
   · rw[aA.bB h] at e
     obtain ⟨y,hy,h1,h2⟩:=rn e
     exact ⟨y,by simp [hy],h1,h2⟩
def acC (w:World) (x:Wr):Prop:=∃C e fz,w.heap[x.g]? =some (.cells C e fz)∧C.toList=x.ns.map fun n=>Value.int x.k (Int.ofNat n)
def X6 (G:Nat):Ph:=fun i=>if i<G then some ⟨i,0,0⟩ else none
theorem OK.begin {E:Env} {w:World} {l:List Wr} (hl:∀x∈l,x.g<E.G∧acC w x):OK E (X6 E.G) (lU E.G l) w:=by
 refine ⟨fun i l' h=>?_,?_,fun g hg=>?_,fun i o l' h1 h2=>?_,fun i j o p l' m _ _ h3 h4 _ h5=>?_⟩
 · unfold X6 at h;rw[ze];split at h
   · assumption
   · cases h
 · rw[ze];exact Nat.le_refl _
 · unfold X6;rw[if_pos hg]
 · obtain ⟨x,hx,rfl,rfl⟩:=rn h1
   obtain ⟨hg,C,e,⟨lo,hi⟩,hw,hC⟩:=hl x hx
   unfold X6 at h2;rw[if_pos hg] at h2
   obtain rfl:=Option.some.inj h2
   refine ⟨C,e,lo,hi,hw,⟨?_,?_,(fun h=>by cases h),fun _ _ _=>rfl⟩,fun z=>by cases z⟩
   · have:C.size=x.ns.length:=by rw[←Array.length_toList,hC,List.length_map]
     simp [Wr.cells,fL,this]
   · intro k y hk
     simp only[Wr.cells,List.getElem?_map,Option.map_eq_some_iff] at hk
     obtain ⟨n,hn,rfl⟩:=hk
     refine ⟨.int x.k (Int.ofNat n),?_,.int _ _⟩
     rw[Nat.zero_add,←Array.getElem?_toList,hC,List.getElem?_map,hn];rfl
 · unfold X6 at h3 h4
   split at h3
   · split at h4
     · obtain rfl:=Option.some.inj h3
       obtain rfl:=Option.some.inj h4
       exact h5
     · cases h4
   · cases h3
noncomputable def xj (o:jB):Bool:=jB.rec (motive:=fun _=>Bool) (fun v _=>Fa.jP (fun b=>b) false v) (fun _ _=>false) (fun _ _=>false) o
theorem zQ {o:jB} (h:xj o=true):∃h',o= .ret (.bool true) h':=by
 cases o with
 | ret v h'=>
   cases v with
   | bool b=>exact ⟨h',by rw[show b=true from h]⟩
   | _=>cases h
 | panic v h'=>cases h
 | fail _ _=>cases h
end Go.Ab
end
section
namespace Go.Ab
variable {E:Env}
noncomputable def rp (E:Env) (call:bh) (fuel:Nat) (fn:Func) (p:Option AV) (s:St):jB:=match cN (iG E call fuel) s.ds p s.h with
 | none=> .fail "unwind" none
 | some (some v,h')=> .panic v h'
 | some (none,h')=>match jL E h' s.ts fn.results.toList with
   | some vs=> .ret (fR vs) h'
   | none=> .fail "results" none
noncomputable def xk (E:Env) (call:bh) (fuel:Nat) (f:FuncId) (args:List AV) (h:aA):jB:=match E.P.funcs[f]? with
 | none=> .fail "no function" none
 | some fn=>match fn.body with
   | none=> .fail ("no body " ++fn.name) none
   | some b=>match mZ E call fuel fn b args h .no with
     | .ok .normal s=>rp E call fuel fn none s
     | .ok .ret s=>rp E call fuel fn none s
     | .ok (.panic v) s=>rp E call fuel fn (some v) s
     | .ok (.exit _) _=> .fail "exit" none
     | .fail why o=> .fail (why++ " in " ++fn.name) o
theorem pC (hE:kM E) (fuel:Nat) {call:bh} (ih:iK E call):(∀f args h v h',xk E call fuel f args h= .ret v h'→lB E f args h v h')∧(∀f args h v h',xk E call fuel f args h= .panic v h'→MR E f args h v h'):=by
 have key:∀(f:FuncId) (args:List AV) (h:aA) (out:jB),xk E call fuel f args h=out→(∀why q,out≠ .fail why q)→
  ∃fn c e s p,E.P.funcs[f]? =some fn∧fn.body=some c∧mZ E call fuel fn c args h .no= .ok e s∧
   ((p=none∧(e= .normal∨e= .ret))∨∃v,p=some v∧e= .panic v)∧
   ((∃v h',out= .panic v h'∧cN (iG E call fuel) s.ds p s.h=some (some v,h'))∨
    ∃vs h',out= .ret (fR vs) h'∧cN (iG E call fuel) s.ds p s.h=some (none,h')∧jL E h' s.ts fn.results.toList=some vs):=by
  intro f args h out e eF
  unfold xk at e
  split at e
  · exact absurd e.symm (eF _ _)
  rename_i fn hf
  split at e
  · exact absurd e.symm (eF _ _)
  rename_i c hb
  have fin:∀(p:Option AV) (s:St),rp E call fuel fn p s=out→
   ((∃v h',out= .panic v h'∧cN (iG E call fuel) s.ds p s.h=some (some v,h'))∨
    ∃vs h',out= .ret (fR vs) h'∧cN (iG E call fuel) s.ds p s.h=some (none,h')∧jL E h' s.ts fn.results.toList=some vs):=by
   intro p s hm
   unfold rp at hm
   split at hm
   · exact absurd hm.symm (eF _ _)
   · rename_i v h' hu;exact .inl ⟨v,h',hm.symm,hu⟩
   · rename_i h' hu
     split at hm
     · rename_i vs hv;exact .inr ⟨vs,h',hm.symm,hu,hv⟩
     · exact absurd hm.symm (eF _ _)
  split at e
  · rename_i s gB;exact ⟨fn,c,_,s,none,hf,hb,gB,.inl ⟨rfl,.inl rfl⟩,fin none s e⟩
  · rename_i s gB;exact ⟨fn,c,_,s,none,hf,hb,gB,.inl ⟨rfl,.inr rfl⟩,fin none s e⟩
  · rename_i v s gB;exact ⟨fn,c,_,s,some v,hf,hb,gB,.inr ⟨v,rfl,rfl⟩,fin (some v) s e⟩
  · exact absurd e.symm (eF _ _)
  · exact absurd e.symm (eF _ _)
 have run:∀(f:FuncId) (fn:Func) (c:Code) (args:List AV) (h:aA) (e:iB) (s:St) (p p':Option AV) (h':aA),E.P.funcs[f]? =some fn→fn.body=some c→mZ E call fuel fn c args h .no= .ok e s→
  ((p=none∧(e= .normal∨e= .ret))∨∃v,p=some v∧e= .panic v)→cN (iG E call fuel) s.ds p s.h=some (p',h')→
  ∀(φ:Ph) (w:World) (vs:List Value),OK E φ h w→LR φ args vs→∀cs,∃φ' w' m' tmps todo,OK E φ' h' w'∧Fr φ h w φ' h' w'∧LR φ' s.ts tmps.toList∧
   ((p'=none∧m'= .returning)∨∃v v',p'=some v∧VR φ' v v'∧m'= .panicking [{v:=v',recovered:=false}])∧
   Steps E.P (lone (Frame.enter E.P f vs.toArray .normal) cs w) (lone {(bare f .normal).atR {tmps,defers:=[]} todo with mode:=m'} cs w'):=by
  intro f fn c args h e s p p' h' hf hb gB hp hu φ w vs ok hl cs
  obtain ⟨φ1,w1,a1,e1,x1,x2,x3,x4,x5,x6⟩:=(sM hE ih hf hb gB ok hl (kind:= .normal) (K:=fun _=>cs) ⟨rfl,fun fr hk=>by simp [tryRecover,show fr.kind= .normal from hk]⟩).is
  have IJ:cur (fun _=>cs) s.rc=cs:=by cases s.rc<;>rfl
  have Rg:cur (fun _=>cs) RC.no=cs:=rfl
  rw[IJ] at x6
  rw[Rg] at x6
  have hm:∃todo m,((p=none∧m= .returning)∨∃v v',p=some v∧VR φ1 v v'∧m= .panicking [{v:=v',recovered:=false}])∧
   Steps E.P (lone (Frame.enter E.P f vs.toArray .normal) cs w) (lone {(bare f .normal).atR a1 todo with mode:=m} cs w1):=by
   rcases hp with ⟨rfl,rfl | rfl⟩ | ⟨v,rfl,rfl⟩
   · cases x1;exact ⟨[],.returning,.inl ⟨rfl,rfl⟩,Steps.trans x6 (.one (stepR_end rfl))⟩
   · cases x1;obtain ⟨todo,hs⟩:=x6;exact ⟨_,.returning,.inl ⟨rfl,rfl⟩,Steps.trans hs (.one (stepR_ret rfl))⟩
   · cases x1 with
     | panic _ v' hv=>obtain ⟨todo,hs⟩:=x6;exact ⟨todo,_,.inr ⟨v,v',rfl,hv,rfl⟩,hs⟩
  obtain ⟨todo,m,hmp,so⟩:=hm
  obtain ⟨φ2,w2,m2,Bu,f2,Rf,hs2⟩:=kh hE ih s.ds hu (fr:={(bare f .normal).atR a1 todo with mode:=m}) (cs:=cs) x3 x2.ds (by
   rcases hmp with ⟨e,em⟩ | ⟨v,v',e,hv,em⟩
   · exact .inl ⟨e,em⟩
   · exact .inr ⟨v,v',e,hv,em⟩)
  exact ⟨φ2,w2,m2,a1.tmps,todo,Bu,x4.trans f2,x2.ts.mono f2.ext,Rf,Steps.trans so hs2⟩
 refine ⟨fun f args h v h' e=>?_,fun f args h v h' e=>?_⟩
 · obtain ⟨fn,c,e1,s,p,hf,hb,gB,hp,qc⟩:=key f args h _ e (by simp)
   rcases qc with ⟨v1,h1,he,_⟩ | ⟨vs1,h1,he,hu,DM⟩
   · simp at he
   · simp at he;obtain ⟨rfl,rfl⟩:=he
     intro φ w vs ok hl
     refine ⟨enters hE hf hb _ w,fun cs=>?_⟩
     obtain ⟨φ',w',m',tmps,todo,sr,fr,ht,hm,hs⟩:=run f fn c args h e1 s p none h' hf hb gB hp hu φ w vs ok hl cs
     obtain ⟨v',hv,f'⟩:=sL sr ht DM
     rcases hm with ⟨_,rfl⟩ | ⟨v,v'',e,_⟩
     · exact ⟨φ',w',v',_,hv,sr,fr,hs,rfl,rfl,rfl,rfl,fn,hf,f'⟩
     · simp at e
 · obtain ⟨fn,c,e1,s,p,hf,hb,gB,hp,qc⟩:=key f args h _ e (by simp)
   rcases qc with ⟨v1,h1,he,hu⟩ | ⟨vs1,h1,he,_⟩
   · simp at he;obtain ⟨rfl,rfl⟩:=he
     intro φ w vs ok hl
     refine ⟨enters hE hf hb _ w,fun cs=>?_⟩
     obtain ⟨φ',w',m',tmps,todo,sr,fr,ht,hm,hs⟩:=run f fn c args h e1 s p (some v) h' hf hb gB hp hu φ w vs ok hl cs
     rcases hm with ⟨e,_⟩ | ⟨v2,v',e,hv,rfl⟩
     · simp at e
     · simp at e;subst e
       exact ⟨φ',w',v',_,hv,sr,fr,hs,rfl,rfl,rfl,fn,hf⟩
   · simp at he
namespace Fa
abbrev GD:=FuncId→List AV→aA→Option (AV×aA)
def GF (E:Env) (M:GD):Prop:=∀f args h v h',M f args h=some (v,h')→lB E f args h v h'
noncomputable def Jg (nx:Nat) (l:List (Nat×aX)):aA:=List.rec (motive:=fun _=>aA) ⟨HT.nil,nx,fun _=>none⟩ (fun x _ h=>h.put x.1 (some x.2)) l
theorem ED {nx:Nat}:∀{l:List (Nat×aX)} {i:Nat} {o:aX},(Jg nx l).get i=some o→(i,o)∈l
 | [],i,o,e=>by
   have e:(aA.mk HT.nil nx fun _=>none).get i=some o:=e
   by_cases hi:i<262144
   · rw[aA.vt hi] at e
     have e:(hp i).get HT.nil=some o:=e
     rw[Bb hi,yG,Ba] at e
     simp only[HT.nil,AT] at e
     cases e
   · rw[aA.qU hi] at e;cases e
 | x::xs,i,o,e=>by
   have e:((Jg nx xs).put x.1 (some x.2)).get i=some o:=e
   by_cases h:x.1=i
   · subst h
     rw[aA.ck] at e
     cases e;simp
   · rw[aA.bB h] at e
     exact List.mem_cons_of_mem _ (ED e)
structure Ent where
 f:FuncId
 args:List AV
 nx:Nat
 K:List (Nat×aX)
 v:AV
 nx':Nat
 K':List (Nat×aX)
end Fa
end Go.Ab
end
section
namespace Go.Ab
variable {E:Env}
theorem LR.xm {φ φ':Ph} {xs:List AV} {ys zs:List Value} (h:LR φ xs ys) (h':LR φ' xs zs) (ih:∀(i:Nat) (x:AV) (y z:Value),xs[i]? =some x→ys[i]? =some y→zs[i]? =some z→VR φ x z):LR φ xs zs:=by
 refine ⟨h'.1,fun i x z hx hz=>?_⟩
 have hi:i<xs.length:=(List.getElem?_eq_some_iff.1 hx).1
 have:i<ys.length:=by rw[←h.1];exact hi
 exact ih i x ys[i] z hx (by simp [this]) hz
theorem VR.back {φ φ':Ph} (hle:φ.le φ') {x:AV} {y:Value} (h:VR φ x y):∀{z:Value},VR φ' x z→VR φ x z:=by
 induction h with
 | bool b=>intro z h;cases h;exact .bool b
 | int k n=>intro z h;cases h;exact .int k n
 | str s=>
   intro z h
   generalize he:AV.str s.data.toList=q at h
   cases h with
   | str s'=>exact .str s'
   | _=>cases he
 | gz=>intro z h;cases h;exact .gz
 | ptr o h=>intro z h';cases h' with | ptr _ h'=>rw[hle _ _ h] at h';cases h';exact .ptr o h
 | aP=>intro z h;cases h;exact .aP
 | slice o len cap op h=>intro z h';cases h' with | slice _ _ _ _ h'=>rw[hle _ _ h] at h';cases h';exact .slice o len cap op h
 | ff a cap=>intro z h;cases h;exact .ff _ _
 | dU=>intro z h;cases h;exact .dU
 | map h=>intro z h';cases h' with | map h'=>rw[hle _ _ h] at h';cases h';exact .map h
 | func f a b a' b' la lb ha hb iha ihb=>
   intro z h
   obtain ⟨c,d,rfl,hc,hd⟩:=VR.wD h
   have h1:LR φ a c.toList:=LR.xm (ys:=a'.toList) ⟨by simpa using la,fun i x y p q=>ha i x y p (by simpa using q)⟩ hc fun i x y z p q r=>iha i x y p (by simpa using q) (hc.2 i x z p r)
   have h2:LR φ b d.toList:=LR.xm (ys:=b'.toList) ⟨by simpa using lb,fun i x y p q=>hb i x y p (by simpa using q)⟩ hd fun i x y z p q r=>ihb i x y p (by simpa using q) (hd.2 i x z p r)
   have:=VR.QC f h1 h2
   simpa using this
 | nilFunc=>intro z h;cases h;exact .nilFunc
 | yield h=>intro z h';cases h' with | yield h'=>rw[hle _ _ h] at h';cases h';exact .yield h
 | iface t v v' h ih=>intro z h';cases h' with | iface _ _ _ h'=>exact .iface t v _ (ih h')
 | nilIface=>intro z h;cases h;exact .nilIface
 | agg cs iW hl h ih=>
   intro z h'
   obtain ⟨d,rfl,hd⟩:=VR.ke h'
   have h1:LR φ cs d.toList:=LR.xm (ys:=iW.toList) ⟨by simpa using hl,fun i x y p q=>h i x y p (by simpa using q)⟩ hd fun i x y z p q r=>ih i x y p (by simpa using q) (hd.2 i x z p r)
   have:=VR.OF h1
   simpa using this
 | any v h=>intro z h';cases h' with | any _ h'=>exact .any _ h'
 | tuple cs iW hl h ih=>
   intro z h'
   obtain ⟨d,rfl,hd⟩:=VR.Eg h'
   have h1:LR φ cs d.toList:=LR.xm (ys:=iW.toList) ⟨by simpa using hl,fun i x y p q=>h i x y p (by simpa using q)⟩ hd fun i x y z p q r=>ih i x y p (by simpa using q) (hd.2 i x z p r)
   have:=VR.tuple' h1
   simpa using this
theorem LR.back {φ φ':Ph} (hle:φ.le φ') {xs:List AV} {ys zs:List Value} (h:LR φ xs ys) (h':LR φ' xs zs):LR φ xs zs:=
 LR.xm h h' fun i x y z p q r=>(h.2 i x y p q).back hle (h'.2 i x z p r)
theorem OR.back {φ φ':Ph} (hle:φ.le φ') {o:aX} {l:Loc} {x z:Option Obj} (h:OR E φ o l x) (h':OR E φ' o l z):OR E φ o l z:=by
 cases o with
 | cells cs e ro=>
   obtain ⟨C,e1,lo,hi,_,hc⟩:=h
   obtain ⟨D,e2,KK,FN,hz,hd⟩:=h'
   refine ⟨D,e2,KK,FN,hz,⟨hd.size,fun k x hk=>?_,hd.free,hd.zero⟩,hd.shape⟩
   obtain ⟨y,_,hy⟩:=hc.val k x hk
   obtain ⟨y',h1,QU⟩:=hd.val k x hk
   exact ⟨y',h1,hy.back hle QU⟩
 | map es clock=>
   obtain ⟨_,es1,_,hl,hv⟩:=h
   obtain ⟨h0,es2,hz,U4,hv'⟩:=h'
   refine ⟨h0,es2,hz,U4,fun i x y hx hy=>?_⟩
   have hi:i<es.length:=(List.getElem?_eq_some_iff.1 hx).1
   have:i<es1.toList.length:=by rw[←hl];exact hi
   have a:=hv i x _ hx (List.getElem?_eq_getElem this)
   have b:=hv' i x y hx hy
   exact ⟨a.key.back hle b.key,a.val.back hle b.val,b.born⟩
 | uY s pos=>exact h'
 | A9 m since seen qP=>
   cases m with
   | none=>exact h'
   | some m=>
     obtain ⟨_,lm,hm,_⟩:=h
     obtain ⟨h0,lm',ZK,hz⟩:=h'
     rw[hle _ _ hm] at ZK;cases ZK
     exact ⟨h0,lm,hm,hz⟩
 | loop st pd ts ps as_ bd dn=>
   obtain ⟨_,r,_,hr⟩:=h
   obtain ⟨h0,r',hz,Ic⟩:=h'
   obtain ⟨ld,hd,_⟩:=hr.defers
   obtain ⟨ld',Kq,Kp⟩:=Ic.defers
   rw[hle _ _ hd] at Kq;cases Kq
   exact ⟨h0,r',hz,Ic.state,Ic.pending,hr.tmps.back hle Ic.tmps,Ic.params,Ic.assign,Ic.body,⟨ld,hd,Kp⟩,Ic.fn⟩
 | qQ=>exact h'
def Has (h h':aA):Prop:=∀i o,h.get i=some o→h'.get i=some o
theorem Has.refl (h:aA):Has h h:=fun _ _ e=>e
theorem Has.trans {a b c:aA} (x:Has a b) (y:Has b c):Has a c:=fun i o e=>y i o (x i o e)
theorem OK.forget {φ φ':Ph} {h h':aA} {w w':World} (ok:OK E φ h w) (hle:φ.le φ') (sr:OK E φ' h' w') (hs:Has h h'):OK E φ h w' where
 Aw:=ok.Aw
 nx:=ok.nx
 vr:=ok.vr
 live i o l a b:=(ok.live i o l a b).back hle (sr.live i o l (hs i o a) (hle _ _ b))
 inj:=ok.inj
theorem Fr.forget {φ φ':Ph} {h h':aA} {w w':World} (f:Fr φ h w φ' h' w'):Fr φ h w φ h w' where
 ext:=Ph.le_refl φ
 old _ _:=rfl
 nx:=Nat.le_refl _
 os:=f.os
 tape:=f.tape
 output:=f.output
 size:=f.size
 wF:=f.wF
 own i o l a b c:= .inr ⟨i,o,l,a,b,c,rfl⟩
def AV.plain:Nat→AV→Bool
 | 0,_=>false
 | n+1,x=>match x with
   | .bool _ | .int .. | .str _ | .gz | .aP | .dU | .nilFunc | .nilIface=>true
   | .iface _ v=>AV.plain n v
   | .agg cs=>cs.all (AV.plain n)
   | .tuple cs=>cs.all (AV.plain n)
   | _=>false
theorem VR.plain {φ φ':Ph}:∀(n:Nat) {x:AV} (_:AV.plain n x=true) {y:Value},VR φ' x y→VR φ x y
 | 0,_,h,_,_=>by cases h
 | n+1,x,h,y,hv=>by
   have ih:= @VR.plain φ φ' n
   cases hv with
   | bool b=>exact .bool b
   | int k m=>exact .int k m
   | str s=>exact .str s
   | gz=>exact .gz
   | aP=>exact .aP
   | dU=>exact .dU
   | nilFunc=>exact .nilFunc
   | nilIface=>exact .nilIface
   | iface t v v' h'=>exact .iface t v v' (ih (by simpa [AV.plain] using h) h')
   | agg cs iW hl hc=>
     refine .agg cs iW hl fun i x y a b=>ih ?_ (hc i x y a b)
     simp only[AV.plain,List.all_eq_true] at h
     exact h x (List.mem_of_getElem? a)
   | tuple cs iW hl hc=>
     refine .tuple cs iW hl fun i x y a b=>ih ?_ (hc i x y a b)
     simp only[AV.plain,List.all_eq_true] at h
     exact h x (List.mem_of_getElem? a)
   | _=>cases h
theorem lB.closed {f:FuncId} {args:List AV} {h':aA} {v:AV} (r:lB E f args (Fa.Jg E.G []) v h') (ha:args.all (AV.plain 20)=true) (hv:AV.plain 20 v=true) (h:aA):lB E f args h v h:=fun φ w vs ok hl=>by
 let φ0:Ph:=fun i=>if i<E.G then φ i else none
 have hle:φ0.le φ:=fun i l e=>by
  simp only[φ0] at e
  split at e
  · exact e
  · cases e
 have R_:∀{i o},(Fa.Jg E.G []).get i=some o→False:=fun e=>by cases Fa.ED e
 have ok0:OK E φ0 (Fa.Jg E.G []) w:=by
  refine ⟨fun i l e=>?_,Nat.le_refl _,fun g hg=>?_,fun i o l e=>(R_ e).elim,fun i j o p l m e=>(R_ e).elim⟩
  · simp only[φ0] at e
    split at e
    · assumption
    · cases e
  · simp only[φ0,hg,if_true];exact ok.vr g hg
 have Y4:LR φ0 args vs:=⟨hl.1,fun i x y a b=>(hl.2 i x y a b).plain 20 (List.all_eq_true.1 ha x (List.mem_of_getElem? a))⟩
 obtain ⟨h1,h2⟩:=r φ0 w vs ok0 Y4
 refine ⟨h1,fun cs=>?_⟩
 obtain ⟨φ',w',v',fr,x1,x2,x3,x4⟩:=h2 cs
 have X7:∀b,b<w.heap.size→w'.heap[b]? =w.heap[b]? :=fun b hb=>x3.wF b hb fun i o l e=>(R_ e).elim
 refine ⟨φ,w',v',fr,x1.plain 20 hv,⟨ok.Aw,ok.nx,ok.vr,fun i o l a b=>?_,ok.inj⟩,⟨Ph.le_refl φ,fun _ _=>rfl,Nat.le_refl _,x3.os,x3.tape,x3.output,x3.size,fun b hb _=>X7 b hb,fun i o l a b c=> .inr ⟨i,o,l,a,b,c,rfl⟩⟩,x4⟩
 have hr:=ok.live i o l a b
 by_cases hb:l.eg<w.heap.size
 · rw[X7 _ hb];exact hr
 · rw[Array.getElem?_eq_none (by omega)] at hr
   exact hr.absurd.elim
end Go.Ab
end
