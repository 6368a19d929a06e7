import Derived.Laws.Externs
import Derived.Lib.Bytealg
import Derived.Maps.Own
import Derived.Maps.Range
import Derived.Sort.KeysCollected
import GoSem.ClaimChange
import Derived.OpenShut
import Derived.FnData
import Derived.ChangeArms
import Derived.Test.YtjbgioidmaofiaaGreatDoorA5
import Derived.Test.YtjbgioidmaofiaaGreatDoorA3
import Derived.Test.YtjbgioidmaofiaaGreatDoorA1
import Derived.Test.YtjbgioidmaofiaaGreatDoorA4
set_option linter.unusedVariables false
set_option linter.unusedSimpArgs false
section
namespace Go.Ab.Fa
variable {E:Env} {F:RF} {n:Nat}
theorem fO {ts:List AV} {x:Operand} {a:AV} (h:cx E ts x=some a):dJ E ts [x]=some [a]:=by simp [dJ,cD,h]
theorem zl {ts:List AV} {x y:Operand} {a b:AV} (h:cx E ts x=some a) (h':cx E ts y=some b):dJ E ts [x,y]=some [a,b]:=by simp [dJ,cD,h,h']
theorem Pv (v:AV):VT v=jU v:=by
 cases v with
 | str s=>show some (fJ s)=some s.length;rw[dH]
 | _=>rfl
theorem IF {h:ag} {size m:Nat} {v:AV} {l:List AV} (e:KF h size m v=some l):cP h size m v=some l:=by
 cases v with
 | aj=>
   obtain ⟨h1,e1⟩:=dz (show bc (Nat.beq m 0) (some []) none=some l from e)
   simp only[cP];rw[if_pos (iX h1)];exact e1
 | slice i o len c b=>
   obtain ⟨h1,e1⟩:=dz (show bc (Nat.ble m len) (ob none (fun obj=>sU (fun cs _ _=>bc (Nat.ble (o+m*size) (fJ cs)) (some (oq (oo cs o) (m*size))) none) none obj) (h.get i)) none=some l from e)
   obtain ⟨obj,h2,e2⟩:=eb e1
   obtain ⟨cs,el,ro,rfl,e3⟩:=mX e2
   obtain ⟨h3,e4⟩:=dz e3
   have h1:=dA h1
   have h3:=dA h3
   rw[dH] at h3
   rw[mo,mn] at e4
   simp only[cP,h2]
   rw[if_pos h1]
   by_cases h0:m=0
   · subst h0
     rw[if_pos rfl]
     rw[Nat.zero_mul,List.take_zero] at e4
     exact e4
   · rw[if_neg h0,if_pos h3];exact e4
 | _=>exact e
theorem K5 {h:ag} {obj:aw} {f:ag→AV×ag} {p:AV×ag} (e:ob none (fun h'=>some (f h')) (h.new obj)=some p):∃h',h.new obj=some h'∧p=f h':=by
 obtain ⟨h',h1,e1⟩:=eb e
 exact ⟨h',h1,(Option.some.inj e1).symm⟩
theorem Pw {argTypes:Array TypeId} {sT xT elem:TypeId} {xd:TypeDesc} {size bytes:Nat} {z:AV} (h1:argTypes[0]? =some sT) (h2:argTypes[1]? =some xT) (h3:E.P.underlying sT=some (.slice elem)) (h4:E.P.underlying xT=some xd)
 (h5:iS xd=false) (h6:bh E elem=some size) (h7:dj E elem=some bytes) (h8:cO E elem=some z) (h9:z.cells.length=size)
 {h:ag} {s x:AV} {p:AV×ag} (e:VU elem size bytes h s x=some p):bp E h argTypes s x=some p:=by
 obtain ⟨m,a1,e1⟩:=eb e
 rw[Pv] at a1
 obtain ⟨new,a2,e2⟩:=eb e1
 have a2:=IF a2
 obtain ⟨a3,e3⟩:=dz e2
 obtain ⟨a4,e4⟩:=dz e3
 rw[mU,C6] at a3
 have a4:=iX a4
 rw[dH] at a4
 unfold bp
 simp only[h1,h2,h3,h4,h5,h6,h7,h8,a1,a2]
 rw[if_neg (by simp)]
 rw[if_pos ⟨h9,a3,a4⟩]
 rcases ky e4 with ⟨rfl,e5⟩ | ⟨i,o,len,cap,op,rfl,e5⟩
 · cases hm:Nat.beq m 0 with
   | true=>
     rw[hm,fl] at e5
     simp only;rw[if_pos (iX hm)];exact e5
   | false=>
     rw[hm,cy] at e5
     obtain ⟨a5,e6⟩:=dz e5
     have a5:(4*m+4096)*(bytes+1)≤1099511627776:=dA a5
     obtain ⟨h',a6,rfl⟩:=K5 e6
     simp only
     rw[if_neg (by intro ee;rw[ee] at hm;cases hm),if_pos a5]
     simp only[a6]
 · obtain ⟨obj,a5,e6⟩:=eb e5
   obtain ⟨cs,el,ro,rfl,e7⟩:=mX e6
   obtain ⟨a6,e8⟩:=jY e7
   subst a6
   simp only[a5]
   cases hc:Nat.ble (Nat.add len m) cap with
   | true=>
     rw[hc,fl] at e8
     have hc:len+m≤cap:=dA hc
     obtain ⟨a7,e9⟩:=dz e8
     have a7:o+(len+m)*size≤fJ cs:=dA a7
     rw[dH] at a7
     rw[if_pos hc,if_pos a7,←Option.some.inj e9,AW];rfl
   | false=>
     rw[hc,cy] at e8
     have hc:cap<len+m:=fT hc
     obtain ⟨a7,e9⟩:=dz e8
     have a7:(4*(len+m)+4096)*(bytes+1)≤1099511627776:=dA a7
     obtain ⟨a8,YA⟩:=dz e9
     have a8:o+len*size≤fJ cs:=dA a8
     rw[dH] at a8
     rw[if_neg (by omega)]
     cases op with
     | true=>
       rw[fl] at YA
       obtain ⟨a9,e11⟩:=dz YA
       obtain ⟨YB,Z6⟩:=dz e11
       obtain ⟨a0,Z6⟩:=dz Z6
       have a0:o=0:=iX a0
       have a9:=iX a9
       have YB:o+cap*size=fJ cs:=iX YB
       rw[dH] at YB
       obtain ⟨h',V1,rfl⟩:=K5 Z6
       rw[jX,mo,mn] at V1
       rw[if_pos ⟨a7,a8,fun _=>⟨a9,YB,a0⟩⟩]
       rw[if_pos rfl]
       have S0:(h.put i none).new (.cells ((cs.drop o).take (len*size)++new) elem false)=some h':=V1
       simp only[S0];rfl
     | false=>
       rw[cy] at YA
       obtain ⟨h',V1,rfl⟩:=K5 YA
       rw[jX,mo,mn] at V1
       rw[if_pos ⟨a7,a8,fun hh=>by cases hh⟩]
       rw[if_neg (by simp)]
       have S0:h.new (.cells ((cs.drop o).take (len*size)++new) elem false)=some h':=V1
       simp only[S0];rfl
theorem iA {b:Builtin} (h1:b≠ .len) (h2:b≠ .cap) (h3:b≠ .max) (h4:b≠ .min) (a:Array Operand) (t:Array TypeId):ox E (.call ⟨.builtin b,a,t⟩):=by
 cases b<;>first | exact absurd rfl h1 | exact absurd rfl h2 | exact absurd rfl h3 | exact absurd rfl h4 | exact ⟨fun _=>rfl,fun _ _=>rfl,fun _=>rfl⟩
theorem IG (a:Array Operand) (t:Array TypeId):dN E F n (.call ⟨.builtin .append,a,t⟩) (match a.toList with
 | [s,x]=>wO E F n s (fun gs=>wO E F n x (fun gx=>FA E t gs gx) .bad) .bad
 | _=> .bad):=by
 have nn:ox E (.call ⟨.builtin .append,a,t⟩):=iA (by simp) (by simp) (by simp) (by simp) a t
 generalize hl:a.toList=l
 match l with
 | []=>trivial
 | [_]=>trivial
 | _::_::_::_=>trivial
 | [s,x]=>
   simp only
   rcases bf E F n s (fun gs=>wO E F n x (fun gx=>FA E t gs gx) .bad) (.bad:Kd F.T) with h | ⟨gs,h,hs⟩<;>rw[h]
   · trivial
   rcases bf E F n x (fun gx=>FA E t gs gx) (.bad:Kd F.T) with h | ⟨gx,h,hx⟩<;>rw[h]
   · trivial
   unfold FA
   simp only[ey,Array.getElem?_toList,fk,kA,KR,s7]
   have fin:∀(f:F.T→ag→Option (AV×ag)),(∀r h p,f r h=some p→bp E h t (gs r) (gx r)=some p)→dN E F n (.call ⟨.builtin .append,a,t⟩) (.wr f):=by
    intro f hf
    refine ⟨nn,fun call r h rc o p ho e=>?_⟩
    simp only[bX,ho,hl,zl (hs r) (hx r),hf r h p e]
   cases h1:t[0]? with
   | none=>trivial
   | some sT=>cases h2:t[1]? with
     | none=>trivial
     | some xT=>
       simp only
       cases h3:E.P.underlying sT with
       | none=>trivial
       | some sd=>cases h4:E.P.underlying xT with
         | none=>cases sd<;>trivial
         | some xd=>cases sd with
           | slice elem=>
             simp only
             cases h5:iS xd with
             | true=>
               rw[if_pos rfl]
               apply fin
               intro r h p e
               unfold bp
               simp only[h1,h2,h3,h4,h5]
               rw[if_pos trivial];exact e
             | false=>
               rw[if_neg (by simp)]
               cases h6:bh E elem with
               | none=>trivial
               | some size=>cases h7:dj E elem with
                 | none=>trivial
                 | some bytes=>cases h8:cO E elem with
                   | none=>trivial
                   | some z=>
                     simp only
                     by_cases h9:z.cells.length=size
                     · rw[if_pos h9]
                       exact fin _ fun r h p e=>Pw h1 h2 h3 h4 h5 h6 h7 h8 h9 e
                     · rw[if_neg h9];trivial
           | _=>trivial
theorem Ht (a:Array Operand) (t:Array TypeId):dN E F n (.call ⟨.builtin .copy,a,t⟩) (match a.toList with
 | [s,x]=>wO E F n s (fun gs=>wO E F n x (fun gx=> .wr fun r h=>pZ E h t (gs r) (gx r)) .bad) .bad
 | _=> .bad):=by
 have nn:ox E (.call ⟨.builtin .copy,a,t⟩):=iA (by simp) (by simp) (by simp) (by simp) a t
 generalize hl:a.toList=l
 match l with
 | []=>trivial
 | [_]=>trivial
 | _::_::_::_=>trivial
 | [s,x]=>
   simp only
   rcases bf E F n s (fun gs=>wO E F n x (fun gx=>(.wr fun r h=>pZ E h t (gs r) (gx r):Kd F.T)) .bad) (.bad:Kd F.T) with h | ⟨gs,h,hs⟩<;>rw[h]
   · trivial
   rcases bf E F n x (fun gx=>(.wr fun r h=>pZ E h t (gs r) (gx r):Kd F.T)) (.bad:Kd F.T) with h | ⟨gx,h,hx⟩<;>rw[h]
   · trivial
   refine ⟨nn,fun call r h rc o p ho e=>?_⟩
   simp only[bX,ho,hl,zl (hs r) (hx r),e]
theorem FL (a:Array Operand) (t:Array TypeId):dN E F n (.call ⟨.builtin .recover,a,t⟩) (.pS fun _ _ h rc=>match rc with
 | .fH x=> .nz x
 | .B6 _=> .fail "" none
 | _=> .val .nilIface h):=by
 refine ⟨iA (by simp) (by simp) (by simp) (by simp) a t,fun fc call _ r h rc o ho=>?_⟩
 simp only[bX,ho]
 cases rc<;>first | trivial | rfl
theorem S1 (a:Array Operand) (t:Array TypeId):dN E F n (.call ⟨.builtin .len,a,t⟩) (match fK t.toList 0,a.toList with
 | some t,[x]=>wO E F n x (fun g=>match gN E.P t with
   | some .string=> .ei fun r=>lQ (fun s=>some (.int .i64 (Int.ofNat (fJ s)))) none (g r)
   | some (.array m _)=> .ei fun _=>some (.int .i64 (Int.ofNat m))
   | some (.slice _)=> .ei fun r=>gn (some (.int .i64 (Int.ofNat 0))) (fun _ _ m _ _=>some (.int .i64 (Int.ofNat m))) (vZ (some (.int .i64 (Int.ofNat 0))) none (g r)) (g r)
   | some (.map _ _)=> .red fun r h=>Ha h (g r)
   | _=> .bad) .bad
 | _,_=> .bad):=by
 rw[ey,Array.getElem?_toList]
 cases ht:t[0]? with
 | none=>trivial
 | some tt=>
   generalize hl:a.toList=l
   match l with
   | []=>trivial
   | _::_::_=>trivial
   | [x]=>
     simp only[fk]
     rcases bf E F n x (fun g=>match E.P.underlying tt with
      | some .string=>(.ei fun r=>lQ (fun s=>some (.int .i64 (Int.ofNat (fJ s)))) none (g r):Kd F.T)
      | some (.array m _)=> .ei fun _=>some (.int .i64 (Int.ofNat m))
      | some (.slice _)=> .ei fun r=>gn (some (.int .i64 (Int.ofNat 0))) (fun _ _ m _ _=>some (.int .i64 (Int.ofNat m))) (vZ (some (.int .i64 (Int.ofNat 0))) none (g r)) (g r)
      | some (.map _ _)=> .red fun r h=>Ha h (g r)
      | _=> .bad) .bad with h | ⟨g,h,hg⟩<;>rw[h]
     · trivial
     cases hu:E.P.underlying tt with
     | none=>trivial
     | some d=>cases d with
       | string=>
         intro r v e
         obtain ⟨s,e1,e2⟩:=iy e
         simp only[aG,ht,hl,fO (hg r),hu,e1]
         rw[←e2,dH];rfl
       | array m el=>
         intro r v e
         simp only[aG,ht,hl,fO (hg r),hu]
         exact e
       | slice el=>
         intro r v e
         rcases C5 e with ⟨e1,e2⟩ | ⟨i,o,l,c,b,e1,e2⟩ | ⟨e1,e2⟩
         · simp only[aG,ht,hl,fO (hg r),hu,e1];exact e2
         · simp only[aG,ht,hl,fO (hg r),hu,e1];exact e2
         · simp only[aG,ht,hl,fO (hg r),hu,e1];exact e2
       | map key el=>
         intro r h v e
         have e:Ha h (g r)=some v:=e
         generalize hm:g r=m at e
         cases m with
         | cn=>exact .inl (by simp only[aG,ht,hl,fO (hg r),hu,hm];exact e)
         | map i=>
           refine .inr ⟨by simp only[aG,ht,hl,fO (hg r),hu,hm],?_⟩
           obtain ⟨o,h3,h4⟩:=eb (show ob none (fun o=>O9 (fun es=>some (AV.int .i64 (Int.ofNat (fJ es)))) none o) (h.get i)=some v from e)
           cases o with
           | map es c=>
             have h4:some (AV.int .i64 (Int.ofNat (fJ es)))=some v:=h4
             simp only[cB,ht,hl,fO (hg r),hu,hm,h3]
             rw[←h4,dH];rfl
           | _=>cases h4
         | _=>cases e
       | _=>trivial
theorem S2 (a:Array Operand) (t:Array TypeId):dN E F n (.call ⟨.builtin .cap,a,t⟩) (match fK t.toList 0,a.toList with
 | some t,[x]=>wO E F n x (fun g=>match gN E.P t with
   | some (.slice _)=> .ei fun r=>gn (some (.int .i64 (Int.ofNat 0))) (fun _ _ _ c b=>bc b none (some (.int .i64 (Int.ofNat c)))) none (g r)
   | _=> .bad) .bad
 | _,_=> .bad):=by
 rw[ey,Array.getElem?_toList]
 cases ht:t[0]? with
 | none=>trivial
 | some tt=>
   generalize hl:a.toList=l
   match l with
   | []=>trivial
   | _::_::_=>trivial
   | [x]=>
     simp only[fk]
     rcases bf E F n x (fun g=>match E.P.underlying tt with
      | some (.slice _)=>(.ei fun r=>gn (some (.int .i64 (Int.ofNat 0))) (fun _ _ _ c b=>bc b none (some (.int .i64 (Int.ofNat c)))) none (g r):Kd F.T)
      | _=> .bad) .bad with h | ⟨g,h,hg⟩<;>rw[h]
     · trivial
     cases hu:E.P.underlying tt with
     | none=>trivial
     | some d=>cases d with
       | slice el=>
         intro r v e
         rcases ky e with ⟨e1,e2⟩ | ⟨i,o,l,c,b,e1,e2⟩
         · simp only[aG,ht,hl,fO (hg r),hu,e1];exact e2
         · obtain ⟨rfl,e3⟩:=jY e2
           simp only[aG,ht,hl,fO (hg r),hu,e1];exact e3
       | _=>trivial
theorem IH (f:FuncId) (a:Array Operand) (t:Array TypeId):dN E F n (.call ⟨.value (.func f),a,t⟩) (wL E F n a.toList (fun gs=>match E.jg f with
 | some e=> .ei fun r=>e (gs r)
 | none=>match E.ff f with
   | some g=> .wr fun r h=>g (gs r) h
   | none=> .call (.fn f) gs) .bad):=by
 rcases pH E F n a.toList (fun gs=>match E.jg f with
  | some e=>(.ei fun r=>e (gs r):Kd F.T)
  | none=>match E.ff f with
    | some g=> .wr fun r h=>g (gs r) h
    | none=> .call (.fn f) gs) .bad with h | ⟨gs,h,hg⟩<;>rw[h]
 · trivial
 cases hp:E.jg f with
 | some e=>
   intro r v h
   simp only[aG,hp,hg];exact h
 | none=>
   have nn:ox E (.call ⟨.value (.func f),a,t⟩):=⟨fun _=>by simp only[aG,hp],fun _ _=>rfl,fun _=>rfl⟩
   have hc:∀r,callee E (cX F n r) ⟨.value (.func f),a,t⟩=some (.fn f,gs r):=by
    intro r
    simp only[callee,hg,cx]
    simp
   cases hs:E.ff f with
   | some g=>
     refine ⟨nn,fun call r h rc o p ho e=>?_⟩
     have e':g (gs r) h=some p:=e
     simp only[bX,ho,hc,gI,hs,e']
   | none=>
     refine ⟨nn,fun call r h rc o ho=>?_⟩
     simp only[bX,ho,hc,gI,hs]
     cases call (.fn f) (gs r) h<;>rfl
theorem vL {a b:fR} (h1:∀v h',a= .ret v h'→b= .ret v h') (h2:∀v h',a= .panic v h'→b= .panic v h'):Re (jo a) (jo b):=by
 cases a with
 | ret v h=>rw[h1 v h rfl];rfl
 | panic v h=>rw[h2 v h rfl];rfl
 | fail _ _=>trivial
theorem qC (x:Operand) (hx:∀f,x≠ .func f) (a:Array Operand) (t:Array TypeId):dN E F n (.call ⟨.value x,a,t⟩) (wO E F n x (fun gf=>wL E F n a.toList (fun gs=> .pS fun call r h _=>G9
 (fun g first captured=>ob (jo (call (.fn g) (il first (il (gs r) captured)) h)) (fun sp=>ob (.fail "" none) (fun p=> .val p.1 p.2) (sp (il first (il (gs r) captured)) h)) (E.ff g))
 (fun l=>jo (call (.tK l) (gs r) h)) (.fail "" none) (gf r)) .bad) .bad):=by
 have nn:ox E (.call ⟨.value x,a,t⟩):=by
  cases x with
  | func f=>exact absurd rfl (hx f)
  | _=>exact ⟨fun _=>rfl,fun _ _=>rfl,fun _=>rfl⟩
 let K:(F.T→AV)→(F.T→List AV)→Kd F.T:=fun gf gs=> .pS fun call r h _=>G9
  (fun g first captured=>ob (jo (call (.fn g) (il first (il (gs r) captured)) h)) (fun sp=>ob (.fail "" none) (fun p=> .val p.1 p.2) (sp (il first (il (gs r) captured)) h)) (E.ff g))
  (fun l=>jo (call (.tK l) (gs r) h)) (.fail "" none) (gf r)
 show dN E F n _ (wO E F n x (fun gf=>wL E F n a.toList (fun gs=>K gf gs) .bad) .bad)
 rcases bf E F n x (fun gf=>wL E F n a.toList (fun gs=>K gf gs) .bad) .bad with h | ⟨gf,h,hf⟩<;>rw[h]
 · trivial
 rcases pH E F n a.toList (fun gs=>K gf gs) .bad with h | ⟨gs,h,hg⟩<;>rw[h]
 · trivial
 refine ⟨nn,fun fc call hle r h rc o ho=>?_⟩
 have ec:∀R,callee E (cX F n r) ⟨.value x,a,t⟩=R→bX E call (cX F n r) h rc o=(match R with
  | some (f,args)=>match gI E f with
    | some g=>(match g args h with | some (x,h')=> .val x h' | none=> .fail "eff" (some o))
    | none=>jo (call f args h)
  | none=> .fail "callee" (some o)):=by
  intro R hR
  simp only[bX,ho,hR]
  cases R with
  | none=>rfl
  | some p=>
    obtain ⟨f,args⟩:=p
    simp only
    cases gI E f with
    | none=>simp only;cases call f args h<;>rfl
    | some g=>rfl
 show Re (G9 _ _ _ (gf r)) _
 cases hv:gf r with
 | func g first captured=>
   have hc:callee E (cX F n r) ⟨.value x,a,t⟩=some (.fn g,first++gs r++captured):=by
    simp only[callee,hf,hg,hv]
   rw[ec _ hc]
   have ha:il first (il (gs r) captured)=first++gs r++captured:=by rw[jX,jX,List.append_assoc]
   show Re (ob (jo (fc (.fn g) (il first (il (gs r) captured)) h)) (fun sp=>ob (.fail "" none) (fun p=> .val p.1 p.2) (sp (il first (il (gs r) captured)) h)) (E.ff g)) _
   rw[ha]
   simp only[gI]
   cases hs:E.ff g with
   | none=>exact vL (hle _ _ _).1 (hle _ _ _).2
   | some sp=>
     show Re (ob (.fail "" none) (fun p=> .val p.1 p.2) (sp (first++gs r++captured) h)) _
     simp only
     cases sp (first++gs r++captured) h with
     | none=>trivial
     | some p=>rfl
 | nW l=>
   have hc:callee E (cX F n r) ⟨.value x,a,t⟩=some (.tK l,gs r):=by
    simp only[callee,hf,hg,hv]
   rw[ec _ hc]
   simp only[gI]
   exact vL (hle _ _ _).1 (hle _ _ _).2
 | _=>trivial
theorem II (x:Operand) (name:String) (a:Array Operand) (t:Array TypeId):dN E F n (.call ⟨.invoke x name,a,t⟩) (wO E F n x (fun gx=>wL E F n a.toList (fun gs=> .pS fun call r h _=>mS
 (fun t v=>ob (.fail "" none) (fun f=>jo (call (.fn f) (v::gs r) h)) (C2 E t name)) (.fail "" none) (gx r)) .bad) .bad):=by
 have nn:ox E (.call ⟨.invoke x name,a,t⟩):=⟨fun _=>rfl,fun _ _=>rfl,fun _=>rfl⟩
 let K:(F.T→AV)→(F.T→List AV)→Kd F.T:=fun gx gs=> .pS fun call r h _=>mS
  (fun t v=>ob (.fail "" none) (fun f=>jo (call (.fn f) (v::gs r) h)) (C2 E t name)) (.fail "" none) (gx r)
 show dN E F n _ (wO E F n x (fun gx=>wL E F n a.toList (fun gs=>K gx gs) .bad) .bad)
 rcases bf E F n x (fun gx=>wL E F n a.toList (fun gs=>K gx gs) .bad) .bad with h | ⟨gx,h,hx⟩<;>rw[h]
 · trivial
 rcases pH E F n a.toList (fun gs=>K gx gs) .bad with h | ⟨gs,h,hg⟩<;>rw[h]
 · trivial
 refine ⟨nn,fun fc call hle r h rc o ho=>?_⟩
 show Re (mS _ _ (gx r)) _
 cases hv:gx r with
 | iface u v=>
   show Re (ob (.fail "" none) (fun f=>jo (fc (.fn f) (v::gs r) h)) (C2 E u name)) _
   cases hm:C2 E u name with
   | none=>trivial
   | some f=>
     have N_:rb E u name=some f:=hm
     have ec:bX E call (cX F n r) h rc o=jo (call (.fn f) (v::gs r) h):=by
      simp only[bX,ho,hx,hg,hv,N_]
      cases call (.fn f) (v::gs r) h<;>rfl
     rw[ec]
     exact vL (hle _ _ _).1 (hle _ _ _).2
 | _=>trivial
theorem K6 (c:Call):dN E F n (.call c) (Rb E F n c (.call c)):=by
 obtain ⟨cC,a,t⟩:=c
 cases cC with
 | value x=>cases x with
   | func f=>exact IH f a t
   | tmp x=>exact qC (.tmp x) (by simp) a t
   | const x=>exact qC (.const x) (by simp) a t
   | global x=>exact qC (.global x) (by simp) a t
 | invoke r m=>exact II r m a t
 | builtin b=>cases b with
   | append=>exact IG a t
   | copy=>exact Ht a t
   | recover=>exact FL a t
   | len=>exact S1 a t
   | cap=>exact S2 a t
   | max=>exact fun r v e=>e
   | min=>exact fun r v e=>e
   | _=>trivial
theorem Dc (op:Op):dN E F n op (qb E F n op):=by
 cases op with
 | move x=>
   show dN E F n _ (wO E F n x .B8 .bad)
   rcases bf E F n x .B8 (.bad:Kd F.T) with h | ⟨g,h,hg⟩<;>rw[h]
   · trivial
   · exact hg
 | assign x=>
   show dN E F n _ (wO E F n x .B8 .bad)
   rcases bf E F n x .B8 (.bad:Kd F.T) with h | ⟨g,h,hg⟩<;>rw[h]
   · trivial
   · exact hg
 | pick c a b=>exact Pr c a b
 | binOp op t x y yt=>
   show dN E F n _ (wO E F n x (fun gx=>wO E F n y (fun gy=>aN op (gH E op t (isConst x) (isConst y)) gx gy) .bad) .bad)
   rcases bf E F n x (fun gx=>wO E F n y (fun gy=>aN op (gH E op t (isConst x) (isConst y)) gx gy) .bad) (.bad:Kd F.T) with h | ⟨gx,h,hx⟩<;>rw[h]
   · trivial
   rcases bf E F n y (fun gy=>aN op (gH E op t (isConst x) (isConst y)) gx gy) (.bad:Kd F.T) with h | ⟨gy,h,hy⟩<;>rw[h]
   · trivial
   exact Pp op t x y yt gx gy hx hy
 | unOp op t x=>
   show dN E F n _ (wO E F n x (VS op) .bad)
   rcases bf E F n x (VS op) (.bad:Kd F.T) with h | ⟨g,h,hg⟩<;>rw[h]
   · trivial
   exact SV op t x g hg
 | fieldAddr s x f=>exact AY s x f
 | load t a=>exact Pq t a
 | store t a x=>exact KZ t a x
 | nilCheck x=>exact C8 x
 | extract x i=>exact FJ x i
 | field s x f=>exact KW s x f
 | indexAddr t x ix=>exact AZ t x ix
 | index t x ix=>exact KX t x ix
 | slice t x lo hi mx=>cases mx with
   | none=>exact KY t x lo hi
   | some m=>exact fun r v e=>e
 | convert s d x=>exact FK s d x
 | makeInterface t x=>exact s9 t x
 | makeFunc f a b=>cases f with
   | func f=>exact C_ f a b
   | _=>trivial
 | alloc t=>exact K0 t
 | box t x=>exact SZ t x
 | buildSlice t len parts=>exact yB t len parts
 | makeSlice t l c=>exact A0 t l c
 | makeMap t r=>cases r with
   | none=>exact ⟨fun _=>rfl,fun _ _=>rfl,fun r p e=>e⟩
   | some x=>exact ⟨fun _=>rfl,fun _ _=>rfl,fun r p e=>e⟩
 | range t x=>exact ⟨fun _=>rfl,fun _ _=>rfl,fun r p e=>e⟩
 | lookup t x ix ok=>exact ID t x ix ok
 | build t parts=>exact K2 t parts
 | typeAssert x a b ok=>exact fun r v e=>e
 | mapUpdate t m k x=>exact A1 t m k x
 | insert t m k x=>exact IE t m k x
 | next it s=>exact Pu it s
 | panic x=>exact K3 x
 | defer c=>exact K4 c
 | call c=>exact K6 c
 | _=>trivial
end Go.Ab.Fa
end
section
namespace Go.Ab.Fa
variable {E:Env} {F:RF} {n:Nat}
def nP (_E:Env) (F:RF) (n:Nat) (o:FO F.T) (out:Out):Prop:=match o with
 | .CY r h y=>out= .ok .normal ⟨cX F n r,h,y.ds,y.rc⟩
 | .jmp e r h y=>e≠ .normal∧out= .ok e ⟨cX F n r,h,y.ds,y.rc⟩
 | .bad=>True
theorem A2 {call:aB} {s:St} {o:Oper} {v:AV} (h:aG E s.ts o.op=some v):z_ E call s o= .ok .normal {s with ts:=cA s.ts o.dst v}:=by
 simp only[z_,h]
theorem Px {call:aB} {s:St} {o:Oper} {v:AV} (h0:aG E s.ts o.op=none) (h:cB E s.ts s.h o.op=some v):z_ E call s o= .ok .normal {s with ts:=cA s.ts o.dst v}:=by
 simp only[z_,h0,h]
theorem A3 {call:aB} {s:St} {o:Oper} (nn:ox E o.op):z_ E call s o=(match bX E call s.ts s.h s.rc o with
 | .val v h'=> .ok .normal {s with ts:=cA s.ts o.dst v,h:=h'}
 | .defer d=> .ok .normal {s with ts:=cA s.ts o.dst AV.undef,ds:=d::s.ds}
 | .nz v=> .ok .normal {s with ts:=cA s.ts o.dst v,rc:= .done}
 | .panic v h'=> .ok (.panic v) {s with h:=h'}
 | .fail why q=> .fail why q):=by
 simp only[z_,nn.1,nn.2.1,nn.2.2]
 generalize bX E call s.ts s.h s.rc o=x
 cases x<;>rfl
noncomputable def V2 (E:Env) (call:aB) (ops:Array Oper) (rest:List Oper) (out:Out):Out:=match out with
 | .ok .normal s'=>gU E call ops rest s'
 | r=>r
theorem Py {ops:Array Oper} {o:Oper} {rest:List Oper} {kd:Kd F.T} {s:AV→F.T→F.T} {j:I F.T} {fc call:aB} (hle:gZ fc call) (hk:dN E F n o.op kd)
 (hs:∀v r,cA (cX F n r) o.dst v=cX F n (s v r)) (hj:∀r h y,nP E F n (j.run fc r h y) (gU E call ops rest ⟨cX F n r,h,y.ds,y.rc⟩)) (r:F.T) (h:ag) (y:Y):
 nP E F n ((FC kd s j).run fc r h y) (V2 E call ops rest (z_ E call ⟨cX F n r,h,y.ds,y.rc⟩ o)):=by
 cases kd with
 | B8 g=>
   rw[A2 (s:=⟨cX F n r,h,y.ds,y.rc⟩) (hk r)]
   show nP E F n (j.run fc (s (g r) r) h y) (gU E call ops rest ⟨cA (cX F n r) o.dst (g r),h,y.ds,y.rc⟩)
   rw[hs];exact hj _ _ _
 | ei f=>
   show nP E F n (ob .bad (fun v=>j.run fc (s v r) h y) (f r)) _
   cases hf:f r with
   | none=>trivial
   | some v=>
     rw[A2 (s:=⟨cX F n r,h,y.ds,y.rc⟩) (hk r v hf)]
     show nP E F n (j.run fc (s v r) h y) (gU E call ops rest ⟨cA (cX F n r) o.dst v,h,y.ds,y.rc⟩)
     rw[hs];exact hj _ _ _
 | red f=>
   show nP E F n (ob .bad (fun v=>j.run fc (s v r) h y) (f r h)) _
   cases hf:f r h with
   | none=>trivial
   | some v=>
     rcases hk r h v hf with h0 | ⟨h0,h1⟩
     · rw[A2 (s:=⟨cX F n r,h,y.ds,y.rc⟩) h0]
       show nP E F n (j.run fc (s v r) h y) (gU E call ops rest ⟨cA (cX F n r) o.dst v,h,y.ds,y.rc⟩)
       rw[hs];exact hj _ _ _
     rw[Px (s:=⟨cX F n r,h,y.ds,y.rc⟩) h0 h1]
     show nP E F n (j.run fc (s v r) h y) (gU E call ops rest ⟨cA (cX F n r) o.dst v,h,y.ds,y.rc⟩)
     rw[hs];exact hj _ _ _
 | nZ f=>
   obtain ⟨h0,h1,h2⟩:=hk
   show nP E F n (ob .bad (fun p=>ob .bad (fun h'=>j.run fc (s (p.2 h.nx) r) h' y) (h.new p.1)) (f r)) _
   cases hf:f r with
   | none=>trivial
   | some p=>
     obtain ⟨obj,mk⟩:=p
     show nP E F n (ob .bad (fun h'=>j.run fc (s (mk h.nx) r) h' y) (h.new obj)) _
     cases hh:h.new obj with
     | none=>trivial
     | some h'=>
       have:z_ E call ⟨cX F n r,h,y.ds,y.rc⟩ o= .ok .normal ⟨cA (cX F n r) o.dst (mk h.nx),h',y.ds,y.rc⟩:=by
        simp only[z_,h0,h1,h2 r _ hf,hh]
       rw[this,hs];exact hj _ _ _
 | wr f=>
   obtain ⟨nn,h1⟩:=hk
   show nP E F n (ob .bad (fun p=>j.run fc (s p.1 r) p.2 y) (f r h)) _
   cases hf:f r h with
   | none=>trivial
   | some p=>
     rw[A3 nn,h1 call r h y.rc o p rfl hf]
     show nP E F n (j.run fc (s p.1 r) p.2 y) (gU E call ops rest ⟨cA (cX F n r) o.dst p.1,p.2,y.ds,y.rc⟩)
     rw[hs];exact hj _ _ _
 | call g args=>
   obtain ⟨nn,h1⟩:=hk
   rw[A3 nn,h1 call r h y.rc o rfl]
   show nP E F n (fR.rec (motive:=fun _=>FO F.T) (fun v h'=>j.run fc (s v r) h' y) (fun v h'=> .jmp (.panic v) r h' y) (fun _ _=> .bad) (fc g (args r) h)) _
   cases hc:fc g (args r) h with
   | fail _ _=>trivial
   | ret v h'=>
     rw[(hle _ _ _).1 v h' hc]
     show nP E F n (j.run fc (s v r) h' y) (gU E call ops rest ⟨cA (cX F n r) o.dst v,h',y.ds,y.rc⟩)
     rw[hs];exact hj _ _ _
   | panic v h'=>
     rw[(hle _ _ _).2 v h' hc]
     exact ⟨by simp,rfl⟩
 | pS f=>
   obtain ⟨nn,h1⟩:=hk
   rw[A3 nn]
   have h2:=h1 fc call hle r h y.rc o rfl
   show nP E F n (sD.rec (motive:=fun _=>FO F.T) (fun v h'=>j.run fc (s v r) h' y) (fun d=>j.run fc (s AV.undef r) h ⟨d::y.ds,y.rc⟩) (fun v=>j.run fc (s v r) h ⟨y.ds,.done⟩)
    (fun v h'=> .jmp (.panic v) r h' y) (fun _ _=> .bad) (f fc r h y.rc)) _
   cases he:f fc r h y.rc with
   | fail _ _=>trivial
   | val v h'=>
     rw[he] at h2
     have h2:bX E call (cX F n r) h y.rc o= .val v h':=h2
     rw[h2]
     show nP E F n (j.run fc (s v r) h' y) (gU E call ops rest ⟨cA (cX F n r) o.dst v,h',y.ds,y.rc⟩)
     rw[hs];exact hj _ _ _
   | defer d=>
     rw[he] at h2
     have h2:bX E call (cX F n r) h y.rc o= .defer d:=h2
     rw[h2]
     show nP E F n (j.run fc (s AV.undef r) h ⟨d::y.ds,y.rc⟩) (gU E call ops rest ⟨cA (cX F n r) o.dst AV.undef,h,d::y.ds,y.rc⟩)
     rw[hs];exact hj _ _ ⟨d::y.ds,y.rc⟩
   | nz v=>
     rw[he] at h2
     have h2:bX E call (cX F n r) h y.rc o= .nz v:=h2
     rw[h2]
     show nP E F n (j.run fc (s v r) h ⟨y.ds,.done⟩) (gU E call ops rest ⟨cA (cX F n r) o.dst v,h,y.ds,.done⟩)
     rw[hs];exact hj _ _ ⟨y.ds,.done⟩
   | panic v h'=>
     rw[he] at h2
     have h2:bX E call (cX F n r) h y.rc o= .panic v h':=h2
     rw[h2]
     exact ⟨by simp,rfl⟩
 | bad=>trivial
def s_ (ts:List AV) (d:Nat) (want:Bool):Bool:=match ts[d]? with
 | some (.bool b)=>b==want
 | _=>false
theorem t_ {ts:List AV} {d:Nat} (h:ts.length≤d) (want:Bool):s_ ts d want=false:=by
 unfold s_;rw[List.getElem?_eq_none h]
theorem ua {ts:List AV} {d:Nat} {v:AV} (h:ts[d]? =some v) (want:Bool):s_ ts d want=gd (fun b=>b==want) false v:=by
 unfold s_;rw[h];cases v<;>rfl
theorem rG (ops:Array Oper) (ts:List AV) (o:Oper) {j:Nat} {want:Bool} (hg:o.guard=some (j,want)):bE ops ts o=(match (ops[j]?).bind (·.dst) with
 | some d=>match ts[d]? with
   | some (.bool b)=>b==want
   | _=>false
 | none=>false):=by simp only[bE,hg];rfl
theorem K7 (ops:Array Oper) (j:Nat):ob none (fun p=>p.dst) (fK ops.toList j)=(ops[j]?).bind (·.dst):=by
 rw[ey,Array.getElem?_toList];cases ops[j]? <;>rfl
theorem K8 (_hn:n≤F.N) (ops:Array Oper) (o:Oper) (a b:I F.T) (call:aB) (r:F.T) (h:ag) (y:Y):
 (Hd F n ops o a b).run call r h y=bif bE ops (cX F n r) o then a.run call r h y else b.run call r h y:=by
 unfold Hd
 cases hg:o.guard with
 | none=>simp only[bE,hg];rfl
 | some p=>
   obtain ⟨j,want⟩:=p
   rw[rG ops _ o hg]
   simp only[K7]
   cases (ops[j]?).bind (·.dst) with
   | none=>rfl
   | some d=>
     show (bc (Nat.ble n d) b (FD (F.get d).f want a b)).run call r h y=bif s_ (cX F n r) d want then a.run call r h y else b.run call r h y
     cases hd:Nat.ble n d with
     | true=>
       rw[t_ (by rw[fj];exact dA hd)];rfl
     | false=>
       rw[ua (pD F n r (fT hd)),cy]
       cases want with
       | true=>
         show gd (fun t=>bc t (a.run call r h y) (b.run call r h y)) (b.run call r h y) ((F.get d).f r)=_
         cases (F.get d).f r with
         | bool t=>cases t<;>rfl
         | _=>rfl
       | false=>
         show gd (fun t=>bc t (b.run call r h y) (a.run call r h y)) (b.run call r h y) ((F.get d).f r)=_
         cases (F.get d).f r with
         | bool t=>cases t<;>rfl
         | _=>rfl
theorem Dd (_hn:n≤F.N) (ops:Array Oper) (o:Oper) (a b:D F.T) (call:aB) (r:F.T) (h:ag) (y:Y):
 (tX F n ops o a b).run call r h y=bif bE ops (cX F n r) o then a.run call r h y else b.run call r h y:=by
 unfold tX
 cases hg:o.guard with
 | none=>simp only[bE,hg];rfl
 | some p=>
   obtain ⟨j,want⟩:=p
   rw[rG ops _ o hg]
   simp only[K7]
   cases (ops[j]?).bind (·.dst) with
   | none=>rfl
   | some d=>
     show (bc (Nat.ble n d) b (KI (F.get d).f want a b)).run call r h y=bif s_ (cX F n r) d want then a.run call r h y else b.run call r h y
     cases hd:Nat.ble n d with
     | true=>
       rw[t_ (by rw[fj];exact dA hd)];rfl
     | false=>
       rw[ua (pD F n r (fT hd)),cy]
       cases want with
       | true=>
         show gd (fun t=>bc t (a.run call r h y) (b.run call r h y)) (b.run call r h y) ((F.get d).f r)=_
         cases (F.get d).f r with
         | bool t=>cases t<;>rfl
         | _=>rfl
       | false=>
         show gd (fun t=>bc t (b.run call r h y) (a.run call r h y)) (b.run call r h y) ((F.get d).f r)=_
         cases (F.get d).f r with
         | bool t=>cases t<;>rfl
         | _=>rfl
theorem vM (hn:n≤F.N) {fc call:aB} (hle:gZ fc call) (ops:Array Oper):∀(l:List Oper) (r:F.T) (h:ag) (y:Y),
 nP E F n ((pG E F n ops l).run fc r h y) (gU E call ops l ⟨cX F n r,h,y.ds,y.rc⟩)
 | [],r,h,y=>rfl
 | o::rest,r,h,y=>by
   have ih:=vM hn hle ops rest
   show nP E F n ((KG E F n ops o (pG E F n ops rest)).run fc r h y) _
   unfold KG
   obtain ⟨s,h1,hs⟩:=Hr F n hn o.dst (fun s=>Hd F n ops o (FC (qb E F n o.op) s (pG E F n ops rest)) (Rc s (pG E F n ops rest)))
   rw[h1,K8 hn]
   rw[gU]
   cases hw:bE ops (cX F n r) o with
   | true=>
     rw[if_pos rfl]
     exact Py hle (Dc o.op) hs ih r h y
   | false=>
     rw[if_neg (by simp)]
     show nP E F n ((pG E F n ops rest).run fc (s AV.undef r) h y) _
     simp only[hs]
     exact ih _ _ _
def madeOf:TK→Option Nat
 | .nZ n _=>some n
 | _=>none
theorem rH (x:Step) (t:List Step):mG (x::t)=match madeOf x.kind with | none=>mG t | some i=>i::mG t:=by
 show List.filterMap (fun x:Step=>madeOf x.kind) (x::t)=_
 rw[List.filterMap_cons];cases madeOf x.kind<;>rfl
inductive lG (E:Env) (ops:Array Oper) (pl:iT):List Iz→List Step→Prop
 | nil:lG E ops pl [] []
 | skip {x:Step} {c:List Iz} {t:List Step} (hs:∀h,f_ E ops x h=true) (hm:madeOf x.kind=none) (ht:lG E ops pl c t):lG E ops pl c (x::t)
 | Pz {x:Step} {c0:Iz} {c:List Iz} {t:List Step} (hk:c0.k=x.k) (hl:c0.m=gV pl.aW pl.an x.i+1 - x.k) (hm:madeOf x.kind=c0.made)
  (hs:∀h,c0.f h=true→f_ E ops x h=true) (ht:lG E ops pl c t):lG E ops pl (c0::c) (x::t)
theorem lG.made {ops:Array Oper} {pl:iT} {c:List Iz} {t:List Step} (h:lG E ops pl c t):Hh c=mG t:=by
 induction h with
 | nil=>rfl
 | skip hs hm ht ih=>rw[rH,hm];exact ih
 | Pz hk hl hm hs ht ih=>
   rename_i x c0 c t
   show ob (Hh c) (fun i=>i::Hh c) c0.made=_
   rw[rH,hm,ih]
   cases c0.made<;>rfl
theorem lG.all {ops:Array Oper} {pl:iT} {hs:List ag} {c:List Iz} {t:List Step} (h:lG E ops pl c t) (e:c.all (fun x=>sW x.f (oq (oo hs x.k) x.m))=true):
 t.all (fun x=>((hs.drop x.k).take (gV pl.aW pl.an x.i+1 - x.k)).all (f_ E ops x))=true:=by
 induction h with
 | nil=>rfl
 | skip mK hm ht ih=>
   rw[List.all_cons,ih e,Bool.and_true,List.all_eq_true]
   intro h _;exact mK h
 | Pz hk hl hm mK ht ih=>
   rw[List.all_cons,Bool.and_eq_true] at e
   rw[List.all_cons,ih e.2,Bool.and_true,List.all_eq_true]
   have e1:=e.1
   rw[mU,mo,mn,List.all_eq_true,hk,hl] at e1
   intro h hh;exact mK h (e1 h hh)
theorem vN {ops:Array Oper} {pl:iT} {hs:List ag} {c:List Iz} {t:List Step} (h:lG E ops pl c t) (e:mW c hs=true):mH E ops pl t hs=true:=by
 unfold mW at e
 rw[ku,Bool.and_eq_true,sZ,mU,h.made] at e
 unfold mH
 rw[Bool.and_eq_true]
 exact ⟨e.1,h.all e.2⟩
def yi (E:Env) (F:RF) (n:Nat) (ops:Array Oper) (pl:iT) (d:DO F.T) (t:gJ):Prop:=match d with
 | .ok tr hs r h y=>∃EN,t= .ok EN hs ⟨cX F n r,h,y.ds,y.rc⟩∧lG E ops pl tr EN
 | .bad=>True
theorem yi.skip {ops:Array Oper} {pl:iT} {d:DO F.T} {t:gJ} (h:yi E F n ops pl d t) {x:Step} (hs:∀h,f_ E ops x h=true) (hm:madeOf x.kind=none):yi E F n ops pl d (t.step x):=by
 cases d with
 | bad=>trivial
 | ok tr mK r h' y=>
   obtain ⟨EN,rfl,h2⟩:=h
   exact ⟨x::EN,rfl,.skip hs hm h2⟩
theorem yi.bound {ops:Array Oper} {pl:iT} {d:DO F.T} {t:gJ} (h:yi E F n ops pl d t) (h0:ag):yi E F n ops pl (mV h0 d) (t.bound h0):=by
 cases d with
 | bad=>trivial
 | ok tr mK r h' y=>
   obtain ⟨EN,rfl,h2⟩:=h
   exact ⟨EN,rfl,h2⟩
theorem yi.Pz {ops:Array Oper} {pl:iT} {d:DO F.T} {t:gJ} (h:yi E F n ops pl d t) {x:Step} {c:Iz} (hk:c.k=x.k) (hl:c.m=gV pl.aW pl.an x.i+1 - x.k)
 (hm:madeOf x.kind=c.made) (hs:∀h,c.f h=true→f_ E ops x h=true):yi E F n ops pl (zj c d) (t.step x):=by
 cases d with
 | bad=>trivial
 | ok tr mK r h' y=>
   obtain ⟨EN,rfl,h2⟩:=h
   exact ⟨x::EN,rfl,.Pz hk hl hm hs h2⟩
theorem De:∀(m:Nat) (x y:AV),vF m x y=true→AV.same m x y=true
 | 0,_,_,e=>by cases e
 | m+1,x,y,e=>by
   have ih:=De m
   have all:∀(a b:List AV),leq (vF m) a b=true→dO (AV.same m) a b=true:=by
    intro a
    induction a with
    | nil=>intro b;cases b<;>intro e<;>first | rfl | cases e
    | cons x tl ihl=>
      intro b
      cases b with
      | nil=>intro e;cases e
      | cons y tm=>
        intro e
        have e:bc (vF m x y) (leq (vF m) tl tm) false=true:=e
        rw[ku,Bool.and_eq_true] at e
        rw[dO,Bool.and_eq_true]
        exact ⟨ih _ _ e.1,ihl _ e.2⟩
   cases x with
   | int k a=>cases y with
     | int j b=>
       have e:bc (Kt k j) (Q9 a b) false=true:=e
       rw[ku,Bool.and_eq_true,FH] at e
       rw[AV.same,Hm e.1,e.2];simp
     | _=>cases e
   | str a=>cases y with
     | str b=>
       have e:leq vz a b=true:=e
       rw[FI] at e
       rw[AV.same];exact e
     | _=>cases e
   | ptr i o=>cases y with
     | ptr j p=>
       have e:bc (Nat.beq i j) (Nat.beq o p) false=true:=e
       rw[ku,Bool.and_eq_true] at e
       rw[AV.same,iX e.1,iX e.2];simp
     | _=>cases e
   | bool a=>cases y with
     | bool b=>
       have e:bc a b (qA b)=true:=e
       rw[AV.same]
       cases a<;>cases b<;>first | rfl | cases e
     | _=>cases e
   | agg a=>cases y with
     | agg b=>rw[AV.same];exact all a b e
     | _=>cases e
   | _=>exact e
theorem vO (hn:n≤F.N) {fc call:aB} (hle:gZ fc call) (ops:Array Oper) (pl:iT):∀(l:List Nat) (k:Nat) (r:F.T) (h:ag) (y:Y),
 yi E F n ops pl ((fU E F n ops pl l k).run fc r h y) (bR E call ops l k ⟨cX F n r,h,y.ds,y.rc⟩)
 | [],k,r,h,y=>⟨[],rfl,.nil⟩
 | i::rest,k,r,h,y=>by
   have ih:=vO hn hle ops pl rest
   rw[bR]
   show yi E F n ops pl (D.run (ob ⟨fun _ _ _ _=> .bad⟩ (fun o=>wS F n o.dst fun s=>
    bc (mj E o.op) (canon (k+1) fun k'=>tX F n ops o (He (qb E F n o.op) s (fU E F n ops pl rest k')) (FE s (fU E F n ops pl rest k')))
     (canon (uR pl.aW pl.an i+1 - k) fun m=>tX F n ops o (Hf k m (qb E F n o.op) s (fU E F n ops pl rest k)) (KH s (fU E F n ops pl rest k)))) (fK ops.toList i)) fc r h y) _
   rw[ey,Array.getElem?_toList]
   cases ho:ops[i]? with
   | none=>trivial
   | some o=>
     have dw:(ops.getD i default).op=o.op:=by rw[Array.getD_eq_getD_getElem?,ho];rfl
     simp only[Pa,ir,ov,Fy]
     obtain ⟨s,h1,hs⟩:=Hr F n hn o.dst (fun s=>
      bc (dv E o.op) (tX F n ops o (He (qb E F n o.op) s (fU E F n ops pl rest (k+1))) (FE s (fU E F n ops pl rest (k+1))))
      (tX F n ops o (Hf k (gV pl.aW pl.an i+1 - k) (qb E F n o.op) s (fU E F n ops pl rest k)) (KH s (fU E F n ops pl rest k))))
     rw[h1]
     have hk:=Dc (E:=E) (F:=F) (n:=n) o.op
     generalize qb E F n o.op=kd at hk
     cases he:dv E o.op with
     | true=>
       rw[fl,Dd hn,if_pos rfl]
       cases hw:bE ops (cX F n r) o with
       | false=>
         rw[if_neg (by simp)]
         show yi E F n ops pl (mV h ((fU E F n ops pl rest (k+1)).run fc (s AV.undef r) h y)) _
         simp only[hs]
         exact ((ih _ _ _ _).bound h).skip (fun _=>rfl) rfl
       | true=>
         rw[if_pos rfl]
         show yi E F n ops pl ((He kd s (fU E F n ops pl rest (k+1))).run fc r h y) _
         cases kd with
         | wr f=>
           show yi E F n ops pl (ob .bad (fun p=>mV h ((fU E F n ops pl rest (k+1)).run fc (s p.1 r) p.2 y)) (f r h)) _
           cases hf:f r h with
           | none=>trivial
           | some p=>
             simp only[hk.2 call r h y.rc o p rfl hf,hs]
             exact ((ih _ _ _ _).bound h).skip (fun _=>rfl) rfl
         | call g args=>
           show yi E F n ops pl (fR.rec (motive:=fun _=>DO F.T) (fun v h'=>mV h ((fU E F n ops pl rest (k+1)).run fc (s v r) h' y)) (fun _ _=> .bad) (fun _ _=> .bad) (fc g (args r) h)) _
           cases hc:fc g (args r) h with
           | fail _ _=>trivial
           | panic _ _=>trivial
           | ret v h'=>
             simp only[hk.2 call r h y.rc o rfl,(hle _ _ _).1 v h' hc,jo,hs]
             exact ((ih _ _ _ _).bound h).skip (fun _=>rfl) rfl
         | pS f=>
           show yi E F n ops pl (sD.rec (motive:=fun _=>DO F.T) (fun v h'=>mV h ((fU E F n ops pl rest (k+1)).run fc (s v r) h' y)) (fun _=> .bad) (fun _=> .bad) (fun _ _=> .bad) (fun _ _=> .bad) (f fc r h y.rc)) _
           have h2:=hk.2 fc call hle r h y.rc o rfl
           cases hf:f fc r h y.rc with
           | val v h'=>
             rw[hf] at h2
             have h2:bX E call (cX F n r) h y.rc o= .val v h':=h2
             simp only[h2,hs]
             exact ((ih _ _ _ _).bound h).skip (fun _=>rfl) rfl
           | _=>trivial
         | _=>trivial
     | false=>
       rw[cy,Dd hn,if_neg (by simp)]
       cases hw:bE ops (cX F n r) o with
       | false=>
         rw[if_neg (by simp)]
         show yi E F n ops pl ((fU E F n ops pl rest k).run fc (s AV.undef r) h y) _
         simp only[hs]
         exact (ih _ _ _ _).skip (fun _=>rfl) rfl
       | true=>
         rw[if_pos rfl]
         show yi E F n ops pl ((Hf k (gV pl.aW pl.an i+1 - k) kd s (fU E F n ops pl rest k)).run fc r h y) _
         cases kd with
         | B8 g=>
           simp only[hk r,hs]
           exact (ih _ _ _ _).skip (fun _=>rfl) rfl
         | ei f=>
           show yi E F n ops pl (ob .bad (fun v=>(fU E F n ops pl rest k).run fc (s v r) h y) (f r)) _
           cases hf:f r with
           | none=>trivial
           | some v=>
             simp only[hk r v hf,hs]
             exact (ih _ _ _ _).skip (fun _=>rfl) rfl
         | red f=>
           show yi E F n ops pl (ob .bad (fun v=>zj ⟨k,_,none,fun h'=>ob false (fun v'=>vF 20 v' v) (f r h')⟩ ((fU E F n ops pl rest k).run fc (s v r) h y)) (f r h)) _
           cases hf:f r h with
           | none=>trivial
           | some v=>
             rcases hk r h v hf with q0 | ⟨q0,q1⟩
             · simp only[q0,hs]
               exact (ih _ _ _ _).Pz rfl rfl rfl fun h' _=>rfl
             simp only[q0,q1,hs]
             refine (ih _ _ _ _).Pz rfl rfl rfl fun h' e=>?_
             have e:ob false (fun v'=>vF 20 v' v) (f r h')=true:=e
             cases S3:f r h' with
             | none=>rw[S3] at e;cases e
             | some v'=>
               rw[S3] at e
               rcases hk r h' v' S3 with q2 | ⟨_,q3⟩
               · rw[q0] at q2;cases q2
               simp only[f_,dw,q3]
               exact De 20 v' v e
         | nZ f=>
           obtain ⟨h3,h4,h5⟩:=hk
           show yi E F n ops pl (ob .bad (fun p=>ob .bad (fun h'=>zj ⟨k,_,some h.nx,fun Hg=>ob false (fun o=>aw.same o p.1) (Hg.get h.nx)⟩ ((fU E F n ops pl rest k).run fc (s (p.2 h.nx) r) h' y)) (h.new p.1)) (f r)) _
           cases hf:f r with
           | none=>trivial
           | some p=>
             obtain ⟨obj,mk⟩:=p
             show yi E F n ops pl (ob .bad (fun h'=>zj ⟨k,_,some h.nx,fun Hg=>ob false (fun o=>aw.same o obj) (Hg.get h.nx)⟩ ((fU E F n ops pl rest k).run fc (s (mk h.nx) r) h' y)) (h.new obj)) _
             cases hh:h.new obj with
             | none=>trivial
             | some h'=>
               simp only[h3,h4,h5 r _ hf,hh,hs]
               refine (ih _ _ _ _).Pz rfl rfl rfl fun Hg e=>?_
               have e:ob false (fun o=>aw.same o obj) (Hg.get h.nx)=true:=e
               cases S3:Hg.get h.nx with
               | none=>rw[S3] at e;cases e
               | some o'=>
                 rw[S3] at e
                 simp only[f_,S3]
                 exact e
         | _=>trivial
theorem K9 {fc call:aB} (hle:gZ fc call) {ts:List AV} {h h':ag} {rc:RC} {dst:Option Tmp} {c:Call} {ty:TypeId} {pos:String} {after:Array Edge} {guard:Option (Nat×Bool)} {v:AV} (e:bX E fc ts h rc ⟨dst,.call c,ty,pos,after,guard⟩= .panic v h'):
 bX E call ts h rc ⟨dst,.call c,ty,pos,after,guard⟩= .panic v h':=by
 obtain ⟨cC,args,aT⟩:=c
 cases cC with
 | builtin b=>
   cases b<;>simp only[bX] at e<;>(try (simp at e;done))<;>(split at e<;>(try (simp at e;done))<;>(try (split at e<;>simp at e)))
 | value f=>
   simp only[bX] at e ⊢
   split at e
   · split at e
     · split at e<;>simp at e
     · split at e
       · simp at e
       · rename_i hc
         simp at e;obtain ⟨rfl,rfl⟩:=e
         simp only[(hle _ _ _).2 _ _ hc]
       · simp at e
   · simp at e
 | invoke x name=>
   simp only[bX] at e ⊢
   split at e
   · split at e
     · split at e
       · simp at e
       · rename_i hc
         simp at e;obtain ⟨rfl,rfl⟩:=e
         simp only[(hle _ _ _).2 _ _ hc]
       · simp at e
     · simp at e
   · simp at e
theorem lG.snoc {ops:Array Oper} {pl:iT} {c:List Iz} {t:List Step} (h:lG E ops pl c t) {x:Step} (hs:∀h,f_ E ops x h=true) (hm:madeOf x.kind=none):lG E ops pl c (t++[x]):=by
 induction h with
 | nil=>exact .skip hs hm .nil
 | skip a b _ ih=>exact .skip a b ih
 | Pz a b d e _ ih=>exact .Pz a b d e ih
theorem PA (hn:n≤F.N) {fc call:aB} (hle:gZ fc call) (ops:Array Oper) (pl:iT) (r:F.T) (h:ag) (y:Y):
 nP E F n (O_ E F n ops pl fc r h y) (match bR E call ops pl.order 0 ⟨cX F n r,h,y.ds,y.rc⟩ with
  | .ok tr hs s'=>if mH E ops pl tr hs then .ok .normal s' else .fail "still" (ops[0]?)
  | .fail why o=>match uV E call ops ⟨cX F n r,h,y.ds,y.rc⟩ pl with
    | some (v,s2)=> .ok (.panic v) s2
    | none=> .fail why o):=by
 unfold O_
 split
 · trivial
 rename_i i front ON
 split
 · rename_i tr hs r1 h1 y1 dst c ty pos after guard hd ho
   split
   · rename_i v h' Ao Ke
     split
     · rename_i hl
       have hk:=vO (E:=E) hn hle ops pl front.reverse 0 r h y
       rw[hd] at hk
       obtain ⟨EN,e1,e2⟩:=hk
       have J':pl.order=front.reverse++[i]:=by
        have:=congrArg List.reverse ON
        simpa using this
       have V3:=K9 hle Ke
       have Ih:=Ao
       simp only[Bool.and_eq_true] at Ih
       obtain ⟨why,q,e3⟩:=sP ho Ih.1.1 front.reverse 0 _ e1 Ih.1.2 V3
       rw[J',e3]
       have Kf:uV E call ops ⟨cX F n r,h,y.ds,y.rc⟩ pl=some (v,⟨cX F n r1,h',y1.ds,y1.rc⟩):=by
        unfold uV
        rw[ON]
        simp only[e1,ho,Ao,if_true,V3]
        rw[if_pos (vN (e2.snoc (fun _=>rfl) rfl) hl)]
       simp only[Kf]
       exact ⟨by simp,rfl⟩
     · trivial
   · trivial
 · trivial
theorem K_ (hn:n≤F.N) {fc call:aB} (hle:gZ fc call) (ops:Array Oper) (r:F.T) (h:ag) (y:Y):
 nP E F n ((Hj E F n ops).run fc r h y) (re E call ops ⟨cX F n r,h,y.ds,y.rc⟩):=by
 unfold Hj re
 rw[KB]
 cases nY E ops with
 | none=>trivial
 | some pl=>
   show nP E F n (DO.rec (motive:=fun _=>FO F.T) (fun tr hs r' h' y'=>bc (mW tr hs) (.CY r' h' y') .bad) (O_ E F n ops pl fc r h y) ((fU E F n ops pl pl.order 0).run fc r h y)) _
   have:=vO (E:=E) hn hle ops pl pl.order 0 r h y
   cases hd:(fU E F n ops pl pl.order 0).run fc r h y with
   | bad=>exact PA hn hle ops pl r h y
   | ok tr hs r' h' y'=>
     rw[hd] at this
     obtain ⟨EN,h1,h2⟩:=this
     show nP E F n (bc (mW tr hs) (.CY r' h' y') .bad) _
     cases hl:mW tr hs with
     | false=>trivial
     | true=>
       simp only[h1]
       rw[if_pos (vN h2 hl)]
       rfl
end Go.Ab.Fa
end
section
namespace Go.Ab.Fa
variable {E:Env} {F:RF} {n:Nat}
theorem Df {fc call:aB} (hle:gZ fc call) {f:Operand} {ps:Array Tmp} {as_ bd:Code} {s:St} {e:gR} {s':St} (h:jC E fc f ps as_ bd s= .ok e s'):jC E call f ps as_ bd s= .ok e s':=by
 unfold jC at h ⊢
 split at h
 case h_2=>cases h
 rename_i g first captured hv
 split at h
 case h_2=>cases h
 rename_i dn h1 Sf ho
 split at h
 case h_2=>cases h
 rename_i h2 hn
 cases hc:fc (.fn g) (first++[.nW h1.nx]++captured) h2 with
 | ret v h3=>rw[hc] at h;rw[(hle _ _ _).1 _ _ hc];exact h
 | panic v h3=>rw[hc] at h;rw[(hle _ _ _).2 _ _ hc];exact h
 | fail why q=>rw[hc] at h;cases h
theorem IJ {call:aB} {f:Operand} {ps:Array Tmp} {as_ bd:Code} {s:St} {e:gR} {s':St} (h:jC E call f ps as_ bd s= .ok e s'):s'.ts=s.ts:=by
 unfold jC at h
 split at h
 case h_2=>cases h
 split at h
 case h_2=>cases h
 split at h
 case h_2=>cases h
 split at h
 · split at h
   · cases h
   · split at h
     · simp only[Out.ok.injEq] at h;rw[←h.2]
     · cases h
   · cases h
 · simp only[Out.ok.injEq] at h;rw[←h.2]
 · cases h
theorem La {o:FO F.T} {out:Out} (h:nP E F n o out) {k:F.T→ag→Y→FO F.T} {g:St→Out} (hk:∀r h y,nP E F n (k r h y) (g ⟨cX F n r,h,y.ds,y.rc⟩)):
 nP E F n (fo k .jmp .bad o) (match (generalizing:=false) out with | .ok .normal s'=>g s' | r=>r):=by
 cases o with
 | CY r h' y=>rw[show out=_ from h];exact hk r h' y
 | jmp e r h' y=>
   obtain ⟨h1,h2⟩:=h
   rw[h2]
   cases e with
   | normal=>exact absurd rfl h1
   | _=>exact ⟨by simp,rfl⟩
 | bad=>trivial
theorem iB (hn:n≤F.N) {fc call:aB} (hle:gZ fc call):∀(c:Code) (m:Nat) (r:F.T) (h:ag) (y:Y),
 nP E F n ((jq E F n c).run m fc r h y) (exec E call m c ⟨cX F n r,h,y.ds,y.rc⟩)
 | .skip,m,r,h,y=>by cases m with
   | zero=>trivial
   | succ m=>exact rfl
 | .label _,m,r,h,y=>by cases m with
   | zero=>trivial
   | succ m=>exact rfl
 | .ret,m,r,h,y=>by cases m with
   | zero=>trivial
   | succ m=>exact ⟨by simp,rfl⟩
 | .exit id,m,r,h,y=>by cases m with
   | zero=>trivial
   | succ m=>exact ⟨by simp,rfl⟩
 | .region _ ops draw,m,r,h,y=>by
   cases m with
   | zero=>cases draw<;>trivial
   | succ m=>cases draw with
     | true=>exact K_ hn hle ops r h y
     | false=>exact vM hn hle ops ops.toList r h y
 | .seq a b,m,r,h,y=>by cases m with
   | zero=>trivial
   | succ m=>
     have h1:=iB hn hle a m r h y
     have h2:=iB hn hle b m
     exact La h1 (g:=fun s'=>exec E call m b s') h2
 | .cond x a b,m,r,h,y=>by
   have ha:=iB hn hle a
   have hb:=iB hn hle b
   show nP E F n (C.run (wO E F n x (fun g=>⟨fun m call r h y=>nS .bad (fun i=>gd (fun t=>bc t ((jq E F n a).run i call r h y) ((jq E F n b).run i call r h y)) .bad (g r)) m⟩) ⟨fun _ _ _ _ _=> .bad⟩) m fc r h y) _
   rcases bf E F n x (fun g=>(⟨fun m call r h y=>nS .bad (fun i=>gd (fun t=>bc t ((jq E F n a).run i call r h y) ((jq E F n b).run i call r h y)) .bad (g r)) m⟩:C F.T)) ⟨fun _ _ _ _ _=> .bad⟩ with hw | ⟨g,hw,hg⟩<;>rw[hw]
   · trivial
   cases m with
   | zero=>trivial
   | succ m=>
     show nP E F n (gd (fun t=>bc t ((jq E F n a).run m fc r h y) ((jq E F n b).run m fc r h y)) .bad (g r)) _
     rw[exec]
     simp only[hg]
     cases g r with
     | bool t=>cases t with
       | true=>exact ha m r h y
       | false=>exact hb m r h y
     | _=>trivial
 | .block id b,m,r,h,y=>by cases m with
   | zero=>trivial
   | succ m=>
     have hb:=iB hn hle b m r h y
     show nP E F n (fo .CY (fun e r' h' y'=>KJ (fun j=>bc (Nat.beq j id) (.CY r' h' y') (.jmp e r' h' y')) (.jmp e r' h' y') e) .bad ((jq E F n b).run m fc r h y)) _
     rw[exec]
     cases hr:(jq E F n b).run m fc r h y with
     | bad=>trivial
     | CY r' h' y'=>
       rw[hr] at hb
       have hb:exec E call m b _= .ok .normal ⟨cX F n r',h',y'.ds,y'.rc⟩:=hb
       rw[hb];exact rfl
     | jmp e r' h' y'=>
       rw[hr] at hb
       obtain ⟨h1,h2⟩:=hb
       rw[h2]
       cases e with
       | normal=>exact absurd rfl h1
       | exit j=>
         show nP E F n (bc (Nat.beq j id) (.CY r' h' y') (.jmp (.exit j) r' h' y')) (if j=id then _ else _)
         cases hj:Nat.beq j id with
         | true=>rw[if_pos (iX hj)];exact rfl
         | false=>rw[if_neg (by intro e;rw[e,Nat.beq_refl] at hj;cases hj)];exact ⟨by simp,rfl⟩
       | ret=>exact ⟨by simp,rfl⟩
       | panic v=>exact ⟨by simp,rfl⟩
 | .loop b,m,r,h,y=>by
   have hb:=iB hn hle b
   show nP E F n (KL (jq E F n b) m fc r h y) _
   induction m generalizing r h y with
   | zero=>trivial
   | succ m ih=>
     show nP E F n (fo (fun r' h' y'=>KL (jq E F n b) m fc r' h' y') .jmp .bad ((jq E F n b).run m fc r h y)) _
     exact La (hb m r h y) (g:=fun s'=>exec E call m (.loop b) s') ih
 | .rangeFunc f ps as_ bd,m,r,h,y=>by
   show nP E F n ((O' (AT E F n f ps as_ bd)).run m fc r h y) _
   cases m with
   | zero=>trivial
   | succ m=>
     show nP E F n ((AT E F n f ps as_ bd).run fc r h y) (jC E call f ps as_ bd ⟨cX F n r,h,y.ds,y.rc⟩)
     unfold AT
     rcases bf E F n f (fun _=>(⟨fun call r h y=>Rd r (jC E call f ps as_ bd ⟨cX F n r,h,y.ds,y.rc⟩)⟩:I F.T)) ⟨fun _ _ _ _=> .bad⟩ with hw | ⟨g,hw,_⟩<;>rw[hw]
     · trivial
     simp only
     cases hr:jC E fc f ps as_ bd ⟨cX F n r,h,y.ds,y.rc⟩ with
     | fail _ _=>trivial
     | ok e s=>
       rw[Df hle hr]
       have ht:=IJ hr
       obtain ⟨ts,hh,ds,rc⟩:=s
       simp only at ht
       subst ht
       cases e with
       | normal=>exact rfl
       | _=>exact ⟨by simp,rfl⟩
 | .scope b,m,r,h,y=>by cases m with
   | zero=>trivial
   | succ m=>exact iB hn hle b m r h y
 | .goto _,m,r,h,y=>trivial
 | .refuse _,m,r,h,y=>trivial
theorem rI:∀(l:List ResultVar) (r:F.T) (h:ag) (vs:List AV),(s6 E F n l).f r h=some vs→ic E h (cX F n r) l=some vs
 | [],r,h,vs,e=>e
 | .tmp t::rest,r,h,vs,e=>by
   rw[s6] at e
   obtain ⟨g,h1,h2⟩:=AX F n t (fun g=>wW (s6 E F n rest) fun k=>(⟨fun r h=>ob none (fun vs=>some (g r::vs)) (k r h)⟩:W (F.T→ag→Option (List AV))))
   rw[h1] at e
   obtain ⟨lq,h3,h4⟩:=eb (show ob none (fun vs=>some (g r::vs)) ((s6 E F n rest).f r h)=some vs from e)
   rw[ic]
   simp only[h2,rI rest r h lq h3]
   exact h4
 | .cell a t::rest,r,h,vs,e=>by
   rw[s6] at e
   obtain ⟨g,h1,h2⟩:=AX F n a (fun g=>wW (s6 E F n rest) fun k=>(⟨fun r h=>ob none (fun v=>ob none (fun vs=>some (v::vs)) (k r h)) (bH E h t (g r))⟩:W (F.T→ag→Option (List AV))))
   rw[h1] at e
   obtain ⟨v,h3,h4⟩:=eb (show ob none (fun v=>ob none (fun vs=>some (v::vs)) ((s6 E F n rest).f r h)) (bH E h t (g r))=some vs from e)
   obtain ⟨lq,h5,h6⟩:=eb h4
   rw[ic]
   simp only[h2,h3,rI rest r h lq h5]
   exact h6
def Z7 (E:Env) (rs:List ResultVar) (b:BO) (out:Out):Prop:=match b with
 | .fin res h y=>∃e ts,(e= .normal∨e= .ret)∧out= .ok e ⟨ts,h,y.ds,y.rc⟩∧∀h' vs,res h'=some vs→ic E h' ts rs=some vs
 | .VY v res h y=>∃ts,out= .ok (.panic v) ⟨ts,h,y.ds,y.rc⟩∧∀h' vs,res h'=some vs→ic E h' ts rs=some vs
 | .bad=>True
theorem Dg {fc call:aB} (hle:gZ fc call) (F:RF) (fn:Func) (hn:fn.ntmps≤F.N) (b:Code) (fuel:Nat) (args:List AV) (h:ag) (rc:RC):
 Z7 E fn.results.toList ((KM E F fn.ntmps fn b).run fuel fc args h rc) (jQ E call fuel fn b args h rc):=by
 show Z7 E _ (bc (Nat.ble (fJ args) fn.ntmps)
  (fo (fun r h' y=> .fin ((s6 E F fn.ntmps fn.results.toList).f r) h' y) (fun e r h' y=>gR.rec (motive:=fun _=>BO) .bad (fun _=> .bad) (.fin ((s6 E F fn.ntmps fn.results.toList).f r) h' y) (fun v=> .VY v ((s6 E F fn.ntmps fn.results.toList).f r) h' y) e) .bad
   ((jq E F fn.ntmps b).run fuel fc (JE F args F.z 0) h ⟨[],rc⟩)) .bad) _
 cases hl:Nat.ble (fJ args) fn.ntmps with
 | false=>trivial
 | true=>
   have hl:=dA hl
   rw[dH] at hl
   have:=iB (E:=E) hn hle b fuel (JE F args F.z 0) h ⟨[],rc⟩
   rw[G8 F fn.ntmps hn args hl] at this
   rw[fl]
   unfold jQ
   cases hr:(jq E F fn.ntmps b).run fuel fc (JE F args F.z 0) h ⟨[],rc⟩ with
   | bad=>trivial
   | CY r h' y=>
     rw[hr] at this
     exact ⟨.normal,_,.inl rfl,this,fun Hg vs e=>rI _ r Hg vs e⟩
   | jmp e r h' y=>
     rw[hr] at this
     obtain ⟨h1,h2⟩:=this
     cases e with
     | normal=>exact absurd rfl h1
     | exit _=>trivial
     | ret=>exact ⟨.ret,_,.inr rfl,h2,fun Hg vs e=>rI _ r Hg vs e⟩
     | panic v=>exact ⟨_,h2,fun Hg vs e=>rI _ r Hg vs e⟩
theorem Dh {fc call:aB} (hle:gZ fc call) (f:FuncId) (fuel:Nat) (args:List AV) (h:ag) (rc:RC):
 (tY E f).run fuel fc args h rc= .bad∨∃fn b,E.P.funcs[f]? =some fn∧fn.body=some b∧Z7 E fn.results.toList ((tY E f).run fuel fc args h rc) (jQ E call fuel fn b args h rc):=by
 unfold tY
 rw[O3]
 cases hf:E.P.funcs[f]? with
 | none=>exact .inl rfl
 | some fn=>
   simp only
   cases hb:fn.body with
   | none=>exact .inl rfl
   | some b=>
     refine .inr ⟨fn,b,rfl,hb,?_⟩
     simp only
     cases h1:Nat.ble fn.ntmps 64 with
     | true=>exact Dg hle Yt fn (dA h1) b fuel args h rc
     | false=>cases h2:Nat.ble fn.ntmps 512 with
       | true=>exact Dg hle Yu fn (dA h2) b fuel args h rc
       | false=>trivial
theorem oA {fc call:aB} (hle:gZ fc call) {fuel:Nat} {c:Code} {s:St} {e:gR} {s':St} (h:Hl E fc fuel c s= .ok e s'):exec E call fuel c s= .ok e s':=by
 have key:∀F:RF,s.ts.length≤F.N→Hk E F fc fuel c s= .ok e s'→exec E call fuel c s= .ok e s':=by
  intro F hn hx
  have:=iB (E:=E) hn hle c fuel (JE F s.ts F.z 0) s.h ⟨s.ds,s.rc⟩
  rw[G8 F s.ts.length hn s.ts (Nat.le_refl _),Nat.sub_self,List.replicate_zero,List.append_nil] at this
  unfold Hk at hx
  cases hr:(jq E F s.ts.length c).run fuel fc (JE F s.ts F.z 0) s.h ⟨s.ds,s.rc⟩ with
  | bad=>rw[hr] at hx;cases hx
  | CY r h' y=>rw[hr] at hx this;rw[show exec E call fuel c s=_ from this];exact hx
  | jmp e' r h' y=>rw[hr] at hx this;rw[show exec E call fuel c s=_ from this.2];exact hx
 unfold Hl at h
 cases h1:Nat.ble s.ts.length 64 with
 | true=>rw[h1] at h;exact key Yt (dA h1) h
 | false=>cases h2:Nat.ble s.ts.length 512 with
   | true=>rw[h1,h2] at h;exact key Yu (dA h2) h
   | false=>rw[h1,h2] at h;cases h
noncomputable def A4 (E:Env) (call:aB) (fuel:Nat) (g:FuncId) (as_:List AV) (h:ag) (rc:RC):Option (ag×RC):=match E.P.funcs[g]? with
 | none=>none
 | some fg=>match fg.body with
   | none=>none
   | some bg=>match jQ E call fuel fg bg as_ h rc with
     | .ok .normal s'=>if s'.ds.isEmpty&&(ic E s'.h s'.ts fg.results.toList).isSome then some (s'.h,s'.rc) else none
     | .ok .ret s'=>if s'.ds.isEmpty&&(ic E s'.h s'.ts fg.results.toList).isSome then some (s'.h,s'.rc) else none
     | _=>none
theorem Lb {fc call:aB} (hle:gZ fc call) {fuel:Nat} {g:FuncId} {as_:List AV} {h:ag} {rc:RC} {p:ag×RC} (e:eN E fc fuel g as_ h rc=some p):A4 E call fuel g as_ h rc=some p:=by
 unfold eN at e
 rcases Dh (E:=E) hle g fuel as_ h rc with h1 | ⟨fn,b,h1,h2,h3⟩
 · rw[h1] at e;cases e
 · unfold A4
   rw[h1];simp only;rw[h2];simp only
   cases hr:(tY E g).run fuel fc as_ h rc with
   | bad=>rw[hr] at e;cases e
   | VY v res h' y=>rw[hr] at e;cases e
   | fin res h' y=>
     rw[hr] at e h3
     obtain ⟨x,ts,h4,h5,h6⟩:=h3
     obtain ⟨h7,e1⟩:=dz (show bc y.ds.isEmpty (ob none (fun _=>some (h',y.rc)) (res h')) none=some p from e)
     obtain ⟨vs,h8,e2⟩:=eb e1
     rw[h5]
     rcases h4 with rfl | rfl
     · simp only[h7,h6 h' vs h8,Option.isSome_some,Bool.and_self,if_true];exact e2
     · simp only[h7,h6 h' vs h8,Option.isSome_some,Bool.and_self,if_true];exact e2
theorem iC {f g:FuncId→List AV→ag→RC→Option (ag×RC)} (UQ:∀k as_ h rc p,f k as_ h rc=some p→g k as_ h rc=some p):∀(ds:List kb) (p:Option AV) (h:ag) {q:Option AV×ag},bT f ds p h=some q→bT g ds p h=some q
 | [],p,h,q,e=>by cases p<;>exact e
 | .UA r::ds,p,h,q,e=>by
   rw[bT] at e ⊢
   split at e
   · exact iC UQ ds p _ e
   · cases e
 | .call k as_::ds,none,h,q,e=>by
   rw[bT] at e ⊢
   cases hf:f k as_ h .no with
   | none=>rw[hf] at e;cases e
   | some p=>rw[hf] at e;rw[UQ _ _ _ _ _ hf];obtain ⟨h',OQ⟩:=p;exact iC UQ ds none h' e
 | .call k as_::ds,some v,h,q,e=>by
   rw[bT] at e ⊢
   cases hf:f k as_ h (.fH v) with
   | none=>rw[hf] at e;cases e
   | some p=>
     rw[hf] at e;rw[UQ _ _ _ _ _ hf];obtain ⟨h',OQ⟩:=p
     cases OQ with
     | fH w=>exact iC UQ ds _ h' e
     | done=>exact iC UQ ds _ h' e
     | _=>cases e
theorem IK {fc call:aB} (hle:gZ fc call) (fuel:Nat) (l:Nat) (args:List AV) (h:ag):(∀v h',vG E fc fuel l args h= .ret v h'→ql E call fuel l args h= .ret v h')∧∀v h',vG E fc fuel l args h= .panic v h'→ql E call fuel l args h= .panic v h':=by
 have key:∀out:fR,(∀why o,out≠ .fail why o)→vG E fc fuel l args h=out→ql E call fuel l args h=out:=by
  intro out lp e
  unfold vG at e
  unfold ql
  split at e
  case h_2=>exact absurd e.symm (lp _ _)
  rename_i st pd ts ps as_ bd dn hg
  rw[hg]
  simp only
  by_cases ha:args.length=ps.length
  · rw[if_pos ha] at e ⊢
    split at e
    · rename_i s1 h1
      rw[oA hle h1]
      simp only
      split at e
      · rename_i pd Sg QR Om Sh Si Rf
        rw[Rf]
        simp only
        split at e
        · rename_i s2 h2;rw[oA hle h2];exact e
        · rename_i s2 h2;rw[oA hle h2];exact e
        · rename_i id s2 h2;rw[oA hle h2];exact e
        · rename_i v s2 h2;rw[oA hle h2];exact e
        · exact absurd e.symm (lp _ _)
      · exact absurd e.symm (lp _ _)
    · exact absurd e.symm (lp _ _)
    · exact absurd e.symm (lp _ _)
  · rw[if_neg ha] at e;exact absurd e.symm (lp _ _)
 exact ⟨fun v h' e=>key _ (by simp) e,fun v h' e=>key _ (by simp) e⟩
noncomputable def Lc (E:Env) (call:aB) (fuel:Nat) (fn:Func) (p:Option AV) (s:St):fR:=match bT (A4 E call fuel) s.ds p s.h with
 | none=> .fail "unwind" none
 | some (some v,h')=> .panic v h'
 | some (none,h')=>match ic E h' s.ts fn.results.toList with
   | some vs=> .ret (eG vs) h'
   | none=> .fail "results" none
theorem FM (d fuel:Nat) {f:FuncId} {fn:Func} {b:Code} (hf:E.P.funcs[f]? =some fn) (hb:fn.body=some b) (args:List AV) (h:ag):
 dX E (d+1) fuel (.fn f) args h=(match jQ E (dX E d fuel) fuel fn b args h .no with
  | .ok .normal s=>Lc E (dX E d fuel) fuel fn none s
  | .ok .ret s=>Lc E (dX E d fuel) fuel fn none s
  | .ok (.panic v) s=>Lc E (dX E d fuel) fuel fn (some v) s
  | .ok (.exit _) _=> .fail "exit" none
  | .fail why o=> .fail (why++ " in " ++fn.name) o):=by
 rw[dX]
 simp only[hf,hb]
 rfl
theorem Hu {fc call:aB} (hle:gZ fc call) {fuel:Nat} {fn:Func} {p:Option AV} {res:ag→Option (List AV)} {ts:List AV} {h:ag} {y:Y} (yz:∀h' vs,res h'=some vs→ic E h' ts fn.results.toList=some vs) {out:fR} (ho:∀why o,out≠ .fail why o)
 (e:C4 (p.elim (ob (.fail "results" none) (fun vs=>fR.ret (eG vs) h) (res h)) (fun v=> .panic v h)) (C3 E fc fuel p res h y.ds) y.ds=out):Lc E call fuel fn p ⟨ts,h,y.ds,y.rc⟩=out:=by
 unfold Lc
 cases hd:y.ds with
 | nil=>
   rw[hd] at e
   cases p with
   | some v=>exact e
   | none=>
     have e:ob (.fail "results" none) (fun vs=>fR.ret (eG vs) h) (res h)=out:=e
     cases hr:res h with
     | none=>rw[hr] at e;exact absurd e.symm (ho _ _)
     | some vs=>
       rw[hr] at e
       simp only[bT,yz h vs hr]
       exact e
 | cons d ds=>
   rw[hd] at e
   have e:C3 E fc fuel p res h (d::ds)=out:=e
   unfold C3 at e
   cases hu:bT (eN E fc fuel) (d::ds) p h with
   | none=>rw[hu] at e;exact absurd e.symm (ho _ _)
   | some q=>
     rw[hu] at e
     have:=iC (g:=A4 E call fuel) (fun k as_ h rc p e=>Lb hle e) (d::ds) p h hu
     simp only[this]
     obtain ⟨q1,h'⟩:=q
     cases q1 with
     | some v=>exact e
     | none=>
       have e:ob (.fail "results" none) (fun vs=>fR.ret (eG vs) h') (res h')=out:=e
       cases hr:res h' with
       | none=>rw[hr] at e;exact absurd e.symm (ho _ _)
       | some vs=>rw[hr] at e;simp only[yz h' vs hr];exact e
theorem Di (fuel:Nat):∀d,gZ (tZ E d fuel) (dX E d fuel)
 | 0=>fun _ _ _=>⟨fun _ _ e=>(by cases e),fun _ _ e=>(by cases e)⟩
 | d+1=>by
   have ih:=Di fuel d
   intro g args h
   cases g with
   | tK l=>exact IK ih fuel l args h
   | fn f=>
     have key:∀out:fR,(∀why o,out≠ .fail why o)→tZ E (d+1) fuel (.fn f) args h=out→dX E (d+1) fuel (.fn f) args h=out:=by
      intro out ho e
      have e:bo (fun res h' y=>C4 (ob (.fail "results" none) (fun vs=>fR.ret (eG vs) h') (res h')) (C3 E (tZ E d fuel) fuel none res h' y.ds) y.ds)
       (fun v res h' y=>C4 (.panic v h') (C3 E (tZ E d fuel) fuel (some v) res h' y.ds) y.ds) (.fail "body" none) ((tY E f).run fuel (tZ E d fuel) args h .no)=out:=e
      rcases Dh (E:=E) ih f fuel args h .no with h1 | ⟨fn,b,h1,h2,h3⟩
      · rw[h1] at e;exact absurd e.symm (ho _ _)
      · rw[FM d fuel h1 h2]
        cases hr:(tY E f).run fuel (tZ E d fuel) args h .no with
        | bad=>rw[hr] at e;exact absurd e.symm (ho _ _)
        | fin res h' y=>
          rw[hr] at e h3
          obtain ⟨x,ts,h4,h5,h6⟩:=h3
          have:=Hu (E:=E) ih (fn:=fn) (p:=none) h6 ho e
          rw[h5]
          rcases h4 with rfl | rfl<;>exact this
        | VY v res h' y=>
          rw[hr] at e h3
          obtain ⟨ts,h5,h6⟩:=h3
          have:=Hu (E:=E) ih (fn:=fn) (p:=some v) h6 ho e
          rw[h5];exact this
     exact ⟨fun v h' e=>key _ (by simp) e,fun v h' e=>key _ (by simp) e⟩
theorem vP {d fuel:Nat} {f:FuncId} {args:List AV} {h h':ag} {v:AV} (e:tZ E d fuel (.fn f) args h= .ret v h'):dX E d fuel (.fn f) args h= .ret v h':=
 (Di fuel d _ _ _).1 v h' e
end Go.Ab.Fa
end
section
namespace Go.Ab
structure zm (P:Program) (f:FuncId) (e:Array Value→Sem Value):Prop where
 at':∃fn,P.funcs[f]? =some fn∧(fn.name== "runtime.NumGoroutine")=false∧fn.body.isNone=true∧Extern.findNext fn=none∧Extern.find fn=some e
theorem zm.run {P:Program} {f:FuncId} {e:Array Value→Sem Value} (h:zm P f e) (args:Array Value) (w:World):(callFunc f args).run P w=((e args).run P w).andThen fun v w'=> .ok (.value v) w':=by
 obtain ⟨fn,h1,h2,h3,h4,h5⟩:=h.at'
 exact run_callFunc_extern h1 h2 h3 h4 h5 args w
def Rg (P:Program) (f:FuncId) (e:List AV→Option AV):Prop:=∀vs r,e vs=some r→∀φ (lq:List Value),LR φ vs lq→∃r',VR φ r r'∧∀w,(callFunc f lq.toArray).run P w= .ok (.value r') w
section
open Fa
noncomputable def l3 {R:Type} (f:AV→AV→AV→R) (d:R) (l:List AV):R:=
 List.rec (motive:=fun _=>R) d (fun a tl _=>List.rec (motive:=fun _=>R) d (fun b tl _=>List.rec (motive:=fun _=>R) d (fun c tl _=>List.rec (motive:=fun _=>R) (f a b c) (fun _ _ _=>d) tl) tl) tl) l
noncomputable def l2 {R:Type} (f:AV→AV→R) (d:R) (l:List AV):R:=
 List.rec (motive:=fun _=>R) d (fun a tl _=>List.rec (motive:=fun _=>R) d (fun b tl _=>List.rec (motive:=fun _=>R) (f a b) (fun _ _ _=>d) tl) tl) l
theorem Ld {β:Type} {f:AV→AV→Option β} {l:List AV} {v:β} (h:l2 f none l=some v):∃a b,l=[a,b]∧f a b=some v:=by
 match l,h with
 | [a,b],h=>exact ⟨a,b,rfl,h⟩
noncomputable def n3 (f:Nat→Nat→Nat→Option AV):List AV→Option AV:=
 l3 (fun a b c=>jH (fun _ x=>jH (fun _ y=>jH (fun _ z=>gq (fun x=>gq (fun y=>gq (fun z=>f x y z) none z) none y) none x) none c) none b) none a) none
noncomputable def PB (c:Nat) (l:List UInt8):Nat→Int:=List.rec (motive:=fun _=>Nat→Int) (fun _=>Int.negSucc 0) (fun b _ ih i=>bc (Nat.beq b.toBitVec.toFin.val c) (Int.ofNat i) (ih (Nat.add i 1))) l
noncomputable def vQ:List AV→Option AV:=l2 (fun a b=>lQ (fun s=>jH (fun k c=>OY none none none none (gq (fun c=>bc (Nat.ble 256 c) none (some (.int .i64 (PB c s 0)))) none c) none none none k) none b) none a) none
noncomputable def Le (c:Nat) (l:List UInt8):Nat:=List.rec (motive:=fun _=>Nat) 0 (fun b _ ih=>bc (Nat.beq b.toBitVec.toFin.val c) (Nat.add ih 1) ih) l
noncomputable def vR:List AV→Option AV:=l2 (fun a b=>lQ (fun s=>jH (fun k c=>OY none none none none (gq (fun c=>bc (Nat.ble 256 c) none (some (.int .i64 (Int.ofNat (Le c s))))) none c) none none none k) none b) none a) none
end
open Fa
theorem uD (b:UInt8) {c:Nat} (hc:c<256):Nat.beq b.toBitVec.toFin.val c=(b==c.toUInt8):=by
 by_cases h:b=c.toUInt8
 · subst h
   rw[show (c.toUInt8).toBitVec.toFin.val=c from by
    show (UInt8.ofNat c).toNat=c
    simp [Nat.mod_eq_of_lt hc]]
   rw[Nat.beq_refl];simp
 · rw[show (b==c.toUInt8)=false by simp [h]]
   cases hb:Nat.beq b.toBitVec.toFin.val c
   · rfl
   · exfalso;apply h
     have:=Nat.eq_of_beq_eq_true hb
     have e:b.toNat=c:=this
     apply UInt8.toNat_inj.mp
     rw[e];show c=(UInt8.ofNat c).toNat;simp [Nat.mod_eq_of_lt hc]
theorem Hv {c:Nat} (hc:c<256):∀(l:List UInt8) (i:Nat),PB c l i=if Lib.indexByte l c.toUInt8= -1 then -1 else (i:Int)+Lib.indexByte l c.toUInt8
 | [],i=>rfl
 | b::l,i=>by
   show bc (Nat.beq b.toBitVec.toFin.val c) (Int.ofNat i) (PB c l (i+1))=_
   rw[uD b hc,Hv hc l (i+1),Lib.indexByte]
   have VB:=Lib.indexByte_ge l c.toUInt8
   generalize Lib.indexByte l c.toUInt8=q at VB
   cases b==c.toUInt8 with
   | true=>
     rw[fl,if_pos rfl]
     rw[if_neg (by decide)];simp
   | false=>
     rw[cy]
     by_cases hx:q= -1
     · subst hx;rfl
     · have:(q== -1)=false:=by simpa using hx
       rw[this]
       simp only[Bool.false_eq_true,if_false]
       rw[if_neg hx,if_neg (by omega)];omega
theorem A5 {P:Program} {f:FuncId} (h:zm P f Extern.BytealgIndexByte.indexByte):Rg P f vQ:=by
 intro vs r e φ lq hl
 obtain ⟨a,b,rfl,e1⟩:=Ld e
 obtain ⟨s,rfl,e2⟩:=iy e1
 obtain ⟨k,n,rfl,e3⟩:=eS e2
 cases k<;>try (exact absurd e3 (by intro x;cases x))
 obtain ⟨c,rfl,e4⟩:=iz (show gq (fun c=>bc (Nat.ble 256 c) none (some (.int .i64 (PB c s 0)))) none n=some r from e3)
 obtain ⟨e5,e6⟩:=jY e4
 have e5:=fT e5
 obtain ⟨x,t,rfl,h1,hl⟩:=hl.bQ
 obtain ⟨y,t,rfl,h2,hl⟩:=hl.bQ
 rw[hl.dG]
 obtain ⟨sb,rfl,OF⟩:∃sb:ByteArray,x= .string sb∧sb.data.toList=s:=by cases h1;exact ⟨_,rfl,rfl⟩
 subst OF
 cases h2
 refine ⟨.int .i64 (firstIdx sb ((c:Int)).toNat.toUInt8),?_,fun w=>?_⟩
 · rw[←Option.some.inj e6,Hv e5,Lib.firstIdx_eq]
   show VR φ (.int .i64 (if Lib.indexByte sb.data.toList c.toUInt8= -1 then -1 else ((0:Nat):Int)+Lib.indexByte sb.data.toList c.toUInt8)) (.int .i64 (Lib.indexByte sb.data.toList c.toUInt8))
   by_cases hx:Lib.indexByte sb.data.toList c.toUInt8= -1
   · rw[if_pos hx,hx];exact .int _ _
   · rw[if_neg hx];simp only[Int.natCast_zero,Int.zero_add];exact .int _ _
 · rw[h.run]
   show ((Extern.BytealgIndexByte.indexByte #[.string sb,.int .u8 (c:Int)]).run P w).andThen _=_
   rw[run_indexByte_string];rfl
theorem Hw {c:Nat} (hc:c<256):∀(l:List UInt8),Le c l=Lib.countByte l c.toUInt8
 | []=>rfl
 | b::l=>by
   show bc (Nat.beq b.toBitVec.toFin.val c) (Le c l+1) (Le c l)=_
   rw[uD b hc,Hw hc l]
   unfold Lib.countByte
   rw[List.count_cons]
   cases b==c.toUInt8<;>rfl
theorem A6 {P:Program} {f:FuncId} (h:zm P f Extern.BytealgCount.count):Rg P f vR:=by
 intro vs r e φ lq hl
 obtain ⟨a,b,rfl,e1⟩:=Ld e
 obtain ⟨s,rfl,e2⟩:=iy e1
 obtain ⟨k,n,rfl,e3⟩:=eS e2
 cases k<;>try (exact absurd e3 (by intro x;cases x))
 obtain ⟨c,rfl,e4⟩:=iz (show gq (fun c=>bc (Nat.ble 256 c) none (some (.int .i64 (Int.ofNat (Le c s))))) none n=some r from e3)
 obtain ⟨e5,e6⟩:=jY e4
 have e5:=fT e5
 obtain ⟨x,t,rfl,h1,hl⟩:=hl.bQ
 obtain ⟨y,t,rfl,h2,hl⟩:=hl.bQ
 rw[hl.dG]
 obtain ⟨sb,rfl,OF⟩:∃sb:ByteArray,x= .string sb∧sb.data.toList=s:=by cases h1;exact ⟨_,rfl,rfl⟩
 subst OF
 cases h2
 refine ⟨.int .i64 (Lib.countByte sb.data.toList ((c:Int)).toNat.toUInt8),?_,fun w=>?_⟩
 · rw[←Option.some.inj e6,Hw e5];exact .int _ _
 · rw[h.run]
   show ((Extern.BytealgCount.count #[.string sb,.int .u8 (c:Int)]).run P w).andThen _=_
   rw[Lib.run_countString];rfl
end Go.Ab
end
section
namespace Go.Ab
open Go.Maps Go.WideElems Go.RowKit Go.Proofs
section
open Fa
noncomputable def l1 {R:Type} (f:AV→R) (d:R) (l:List AV):R:=List.rec (motive:=fun _=>R) d (fun a tl _=>List.rec (motive:=fun _=>R) (f a) (fun _ _ _=>d) tl) l
end
open Fa
theorem OK.later {E:Env} {φ:Ph} {h:ag} {w w':World} (ok:OK E φ h w) (b:Below w.heap.size w w'):OK E φ h w'∧Fr φ h w φ h w':=by
 have uw:∀j p m,h.get j=some p→φ j=some m→m.cG<w.heap.size:=fun j p m hj hm=>by
  have uQ:=ok.live j p m hj hm
  rcases Nat.lt_or_ge m.cG w.heap.size with a | a
  · exact a
  · exfalso
    rw[Array.getElem?_eq_none a] at uQ
    exact uQ.absurd
 refine ⟨⟨ok.sE,ok.nx,ok.nK,fun i o l h1 h2=>?_,ok.inj⟩,⟨Ph.le_refl φ,fun _ _=>rfl,Nat.le_refl _,b.os,b.tape,b.output,b.size,fun c hc _=>b.block c hc,fun i o l h1 h2 h3=> .inr ⟨i,o,l,h1,h2,h3,rfl⟩⟩⟩
 rw[b.block _ (uw i o l h1 h2)]
 exact ok.live i o l h1 h2
end Go.Ab
end
section
namespace Go.Ab
structure N' where
 g:Nat
 k:IntKind
 ns:List Nat
 t:TypeId
def N'.cells (x:N'):List AV:=x.ns.map fun n=>AV.int x.k (Int.ofNat n)
noncomputable def g_ (G:Nat):List N'→ag
 | []=>⟨HT.nil,G,fun _=>none⟩
 | x::xs=>(g_ G xs).put x.g (some (.cells x.cells x.t true))
theorem PC (i:Nat) (G:Nat):(ag.mk HT.nil G fun _=>none).get i=none:=by
 by_cases hi:i<262144
 · rw[ag.qm hi]
   rw[u_ hi,sF,uZ]
   simp only[HT.nil,uM]
 · rw[ag.mI hi]
theorem pJ (G:Nat):∀l,(g_ G l).nx=G
 | []=>rfl
 | _::xs=>pJ G xs
theorem mY {G:Nat}:∀{l:List N'} {i:Nat} {o:aw},(g_ G l).get i=some o→∃x∈l,x.g=i∧o= .cells x.cells x.t true
 | [],i,o,e=>by rw[g_,PC] at e;cases e
 | x::xs,i,o,e=>by
   rw[g_] at e
   by_cases h:x.g=i
   · subst h
     rw[ag.bu] at e
     exact ⟨x,by simp,rfl,(Option.some.inj e).symm⟩
   · rw[ag.aI h] at e
     obtain ⟨y,hy,h1,h2⟩:=mY e
     exact ⟨y,by simp [hy],h1,h2⟩
def Lf (w:World) (x:N'):Prop:=∃C e fz,w.heap[x.g]? =some (.cells C e fz)∧C.toList=x.ns.map fun n=>Value.int x.k (Int.ofNat n)
def Rj (G:Nat):Ph:=fun i=>if i<G then some ⟨i,0,0⟩ else none
theorem OK.begin {E:Env} {w:World} {l:List N'} (hl:∀x∈l,x.g<E.G∧Lf w x):OK E (Rj E.G) (g_ E.G l) w:=by
 refine ⟨fun i l' h=>?_,?_,fun g hg=>?_,fun i o l' h1 h2=>?_,fun i j o p l' m _ _ h3 h4 _ h5=>?_⟩
 · unfold Rj at h;rw[pJ];split at h
   · assumption
   · cases h
 · rw[pJ];exact Nat.le_refl _
 · unfold Rj;rw[if_pos hg]
 · obtain ⟨x,hx,rfl,rfl⟩:=mY h1
   obtain ⟨hg,C,e,⟨lo,hi⟩,hw,hC⟩:=hl x hx
   unfold Rj at h2;rw[if_pos hg] at h2
   obtain rfl:=Option.some.inj h2
   refine ⟨C,e,lo,hi,hw,⟨?_,?_,(fun h=>by cases h),fun _ _ _=>rfl⟩,fun z=>by cases z⟩
   · have:C.size=x.ns.length:=by rw[←Array.length_toList,hC,List.length_map]
     simp [N'.cells,dy,this]
   · intro k y hk
     simp only[N'.cells,List.getElem?_map,Option.map_eq_some_iff] at hk
     obtain ⟨n,hn,rfl⟩:=hk
     refine ⟨.int x.k (Int.ofNat n),?_,.int _ _⟩
     rw[Nat.zero_add,←Array.getElem?_toList,hC,List.getElem?_map,hn];rfl
 · unfold Rj at h3 h4
   split at h3
   · split at h4
     · obtain rfl:=Option.some.inj h3
       obtain rfl:=Option.some.inj h4
       exact h5
     · cases h4
   · cases h3
theorem Dj {H:Type} {enc:TypeId×Value→H} {P:Program} {W:World} {name:String} {g:Nat} {t el:TypeId} {k:IntKind} {ns:List Nat} {cs:Array Value} (hg:P.globalNamed name=some g) (hv:W.var? P name=some cs)
 (hu:P.underlying t=some (.array ns.length el)) (he:P.underlying el=some (.int k)) (hc:P.cellsOf el=1) (hct:P.cellsOf t=ns.length) {base:Nat} {sp:Nat→Bool} {held:Bool} {fuel:Nat} {x:DataW H×List MemPlace}
 (hd:DataW.trod enc P W base sp held fuel t cs.toList=some x) (hx:x.1= .agg (ns.map fun n=> .lit (.int k (Int.ofNat n)))) (t':TypeId):Lf W ⟨g,k,ns,t'⟩:=by
 obtain ⟨xs,m,_,ex,hl,hn,hel⟩:=DataW.trod_array hu hd
 have e3:xs.map (·.1)=ns.map fun n=>DataW.lit (.int k (Int.ofNat n)):=by rw[ex] at hx;exact DataW.agg.inj hx
 simp only[World.var?,hg,Option.bind_some] at hv
 split at hv
 · rename_i C e fz hw
   obtain rfl:=Option.some.inj hv
   refine ⟨C,e,fz,hw,?_⟩
   apply List.ext_getElem?
   intro i
   by_cases hi:i<ns.length
   · have h1:=hel i hi
     rw[hc,Nat.mul_one,List.getElem?_eq_getElem (by omega)] at h1
     obtain ⟨z,e1,e2,_⟩:=DataW.trod_int he h1
     have e4:(xs.map (·.1))[i]? =(ns.map fun n=>(DataW.lit (.int k (Int.ofNat n)):DataW H))[i]? :=by rw[e3]
     rw[List.getElem?_map,List.getElem?_map,List.getElem?_eq_getElem (by omega:i<xs.length),List.getElem?_eq_getElem hi,e2] at e4
     simp only[Option.map_some,Option.some.injEq,DataW.lit.injEq,Lit.int.injEq,true_and] at e4
     have h0:((C.toList.drop i).take 1)[0]? =some (.int k z):=by rw[e1];rfl
     rw[List.getElem?_map,List.getElem?_eq_getElem hi,Option.map_some,←e4]
     simpa using h0
   · rw[List.getElem?_eq_none (by omega),List.getElem?_eq_none (by simp;omega)]
 · cases hv
noncomputable def rJ (o:fR):Bool:=fR.rec (motive:=fun _=>Bool) (fun v _=>Fa.gd (fun b=>b) false v) (fun _ _=>false) (fun _ _=>false) o
theorem ub {o:fR} (h:rJ o=true):∃h',o= .ret (.bool true) h':=by
 cases o with
 | ret v h'=>
   cases v with
   | bool b=>exact ⟨h',by rw[show b=true from h]⟩
   | _=>cases h
 | panic v h'=>cases h
 | fail _ _=>cases h
end Go.Ab
end
section
namespace Go.Ab
variable {E:Env}
noncomputable def pK (E:Env) (call:aB) (fuel:Nat) (fn:Func) (p:Option AV) (s:St):fR:=match bT (eN E call fuel) s.ds p s.h with
 | none=> .fail "unwind" none
 | some (some v,h')=> .panic v h'
 | some (none,h')=>match ic E h' s.ts fn.results.toList with
   | some vs=> .ret (eG vs) h'
   | none=> .fail "results" none
noncomputable def uc (E:Env) (call:aB) (fuel:Nat) (f:FuncId) (args:List AV) (h:ag):fR:=match E.P.funcs[f]? with
 | none=> .fail "no function" none
 | some fn=>match fn.body with
   | none=> .fail ("no body " ++fn.name) none
   | some b=>match jQ E call fuel fn b args h .no with
     | .ok .normal s=>pK E call fuel fn none s
     | .ok .ret s=>pK E call fuel fn none s
     | .ok (.panic v) s=>pK E call fuel fn (some v) s
     | .ok (.exit _) _=> .fail "exit" none
     | .fail why o=> .fail (why++ " in " ++fn.name) o
theorem lH (hE:hS E) (fuel:Nat) {call:aB} (ih:eR E call):(∀f args h v h',uc E call fuel f args h= .ret v h'→fI E f args h v h')∧(∀f args h v h',uc E call fuel f args h= .panic v h'→GV E f args h v h'):=by
 have key:∀(f:FuncId) (args:List AV) (h:ag) (out:fR),uc E call fuel f args h=out→(∀why q,out≠ .fail why q)→
  ∃fn c e s p,E.P.funcs[f]? =some fn∧fn.body=some c∧jQ E call fuel fn c args h .no= .ok e s∧
   ((p=none∧(e= .normal∨e= .ret))∨∃v,p=some v∧e= .panic v)∧
   ((∃v h',out= .panic v h'∧bT (eN E call fuel) s.ds p s.h=some (some v,h'))∨
    ∃vs h',out= .ret (eG vs) h'∧bT (eN E call fuel) s.ds p s.h=some (none,h')∧ic E h' s.ts fn.results.toList=some vs):=by
  intro f args h out e cH
  unfold uc at e
  split at e
  · exact absurd e.symm (cH _ _)
  rename_i fn hf
  split at e
  · exact absurd e.symm (cH _ _)
  rename_i c hb
  have fin:∀(p:Option AV) (s:St),pK E call fuel fn p s=out→
   ((∃v h',out= .panic v h'∧bT (eN E call fuel) s.ds p s.h=some (some v,h'))∨
    ∃vs h',out= .ret (eG vs) h'∧bT (eN E call fuel) s.ds p s.h=some (none,h')∧ic E h' s.ts fn.results.toList=some vs):=by
   intro p s hm
   unfold pK at hm
   split at hm
   · exact absurd hm.symm (cH _ _)
   · rename_i v h' hu;exact .inl ⟨v,h',hm.symm,hu⟩
   · rename_i h' hu
     split at hm
     · rename_i vs hv;exact .inr ⟨vs,h',hm.symm,hu,hv⟩
     · exact absurd hm.symm (cH _ _)
  split at e
  · rename_i s dQ;exact ⟨fn,c,_,s,none,hf,hb,dQ,.inl ⟨rfl,.inl rfl⟩,fin none s e⟩
  · rename_i s dQ;exact ⟨fn,c,_,s,none,hf,hb,dQ,.inl ⟨rfl,.inr rfl⟩,fin none s e⟩
  · rename_i v s dQ;exact ⟨fn,c,_,s,some v,hf,hb,dQ,.inr ⟨v,rfl,rfl⟩,fin (some v) s e⟩
  · exact absurd e.symm (cH _ _)
  · exact absurd e.symm (cH _ _)
 have run:∀(f:FuncId) (fn:Func) (c:Code) (args:List AV) (h:ag) (e:gR) (s:St) (p p':Option AV) (h':ag),E.P.funcs[f]? =some fn→fn.body=some c→jQ E call fuel fn c args h .no= .ok e s→
  ((p=none∧(e= .normal∨e= .ret))∨∃v,p=some v∧e= .panic v)→bT (eN E call fuel) s.ds p s.h=some (p',h')→
  ∀(φ:Ph) (w:World) (vs:List Value),OK E φ h w→LR φ args vs→∀cs,∃φ' w' m' tmps todo,OK E φ' h' w'∧Fr φ h w φ' h' w'∧LR φ' s.ts tmps.toList∧
   ((p'=none∧m'= .returning)∨∃v v',p'=some v∧VR φ' v v'∧m'= .panicking [{v:=v',recovered:=false}])∧
   Steps E.P (lone (Frame.enter E.P f vs.toArray .normal) cs w) (lone {(bare f .normal).atR {tmps,defers:=[]} todo with mode:=m'} cs w'):=by
  intro f fn c args h e s p p' h' hf hb dQ hp hu φ w vs ok hl cs
  obtain ⟨φ1,w1,a1,e1,x1,x2,x3,x4,x5,x6⟩:=(oh hE ih hf hb dQ ok hl (kind:= .normal) (K:=fun _=>cs) ⟨rfl,fun fr hk=>by simp [tryRecover,show fr.kind= .normal from hk]⟩).is
  have CI:cur (fun _=>cs) s.rc=cs:=by cases s.rc<;>rfl
  have Kp:cur (fun _=>cs) RC.no=cs:=rfl
  rw[CI] at x6
  rw[Kp] at x6
  have hm:∃todo m,((p=none∧m= .returning)∨∃v v',p=some v∧VR φ1 v v'∧m= .panicking [{v:=v',recovered:=false}])∧
   Steps E.P (lone (Frame.enter E.P f vs.toArray .normal) cs w) (lone {(bare f .normal).atR a1 todo with mode:=m} cs w1):=by
   rcases hp with ⟨rfl,rfl | rfl⟩ | ⟨v,rfl,rfl⟩
   · cases x1;exact ⟨[],.returning,.inl ⟨rfl,rfl⟩,Steps.trans x6 (.one (stepR_end rfl))⟩
   · cases x1;obtain ⟨todo,hs⟩:=x6;exact ⟨_,.returning,.inl ⟨rfl,rfl⟩,Steps.trans hs (.one (stepR_ret rfl))⟩
   · cases x1 with
     | panic _ v' hv=>obtain ⟨todo,hs⟩:=x6;exact ⟨todo,_,.inr ⟨v,v',rfl,hv,rfl⟩,hs⟩
  obtain ⟨todo,m,ZX,mM⟩:=hm
  obtain ⟨φ2,w2,m2,vt,f2,Ko,ZY⟩:=gM hE ih s.ds hu (fr:={(bare f .normal).atR a1 todo with mode:=m}) (cs:=cs) x3 x2.ds (by
   rcases ZX with ⟨e,em⟩ | ⟨v,v',e,hv,em⟩
   · exact .inl ⟨e,em⟩
   · exact .inr ⟨v,v',e,hv,em⟩)
  exact ⟨φ2,w2,m2,a1.tmps,todo,vt,x4.trans f2,x2.ts.mono f2.ext,Ko,Steps.trans mM ZY⟩
 refine ⟨fun f args h v h' e=>?_,fun f args h v h' e=>?_⟩
 · obtain ⟨fn,c,e1,s,p,hf,hb,dQ,hp,lp⟩:=key f args h _ e (by simp)
   rcases lp with ⟨v1,h1,he,_⟩ | ⟨Z0,h1,he,hu,yz⟩
   · simp at he
   · simp at he;obtain ⟨rfl,rfl⟩:=he
     intro φ w vs ok hl
     refine ⟨enters hE hf hb _ w,fun cs=>?_⟩
     obtain ⟨φ',w',m',tmps,todo,nC,fr,ht,hm,hs⟩:=run f fn c args h e1 s p none h' hf hb dQ hp hu φ w vs ok hl cs
     obtain ⟨v',hv,dZ⟩:=og nC ht yz
     rcases hm with ⟨_,rfl⟩ | ⟨v,v'',e,_⟩
     · exact ⟨φ',w',v',_,hv,nC,fr,hs,rfl,rfl,rfl,rfl,fn,hf,dZ⟩
     · simp at e
 · obtain ⟨fn,c,e1,s,p,hf,hb,dQ,hp,lp⟩:=key f args h _ e (by simp)
   rcases lp with ⟨v1,h1,he,hu⟩ | ⟨Z0,h1,he,_⟩
   · simp at he;obtain ⟨rfl,rfl⟩:=he
     intro φ w vs ok hl
     refine ⟨enters hE hf hb _ w,fun cs=>?_⟩
     obtain ⟨φ',w',m',tmps,todo,nC,fr,ht,hm,hs⟩:=run f fn c args h e1 s p (some v) h' hf hb dQ hp hu φ w vs ok hl cs
     rcases hm with ⟨e,_⟩ | ⟨v2,v',e,hv,rfl⟩
     · simp at e
     · simp at e;subst e
       exact ⟨φ',w',v',_,hv,nC,fr,hs,rfl,rfl,rfl,fn,hf⟩
   · simp at he
namespace Fa
abbrev Dk:=FuncId→List AV→ag→Option (AV×ag)
def A7 (E:Env) (M:Dk):Prop:=∀f args h v h',M f args h=some (v,h')→fI E f args h v h'
noncomputable def oB (nx:Nat) (l:List (Nat×aw)):ag:=List.rec (motive:=fun _=>ag) ⟨HT.nil,nx,fun _=>none⟩ (fun x _ h=>h.put x.1 (some x.2)) l
theorem ta {nx:Nat}:∀{l:List (Nat×aw)} {i:Nat} {o:aw},(oB nx l).get i=some o→(i,o)∈l
 | [],i,o,e=>by
   have e:(ag.mk HT.nil nx fun _=>none).get i=some o:=e
   by_cases hi:i<262144
   · rw[ag.qm hi] at e
     have e:(hp i).get HT.nil=some o:=e
     rw[u_ hi,sF,uZ] at e
     simp only[HT.nil,uM] at e
     cases e
   · rw[ag.mI hi] at e;cases e
 | x::xs,i,o,e=>by
   have e:((oB nx xs).put x.1 (some x.2)).get i=some o:=e
   by_cases h:x.1=i
   · subst h
     rw[ag.bu] at e
     cases e;simp
   · rw[ag.aI h] at e
     exact List.mem_cons_of_mem _ (ta e)
theorem vS (nx:Nat):∀l,(oB nx l).nx=nx
 | []=>rfl
 | x::xs=>by
   show ((oB nx xs).put x.1 (some x.2)).nx=nx
   rw[ag.JV];exact vS nx xs
structure Ent where
 f:FuncId
 args:List AV
 nx:Nat
 K:List (Nat×aw)
 v:AV
 nx':Nat
 K':List (Nat×aw)
end Fa
end Go.Ab
end
section
namespace Go.Ab
variable {E:Env}
theorem LR.rK {φ φ':Ph} {xs:List AV} {ys zs:List Value} (h:LR φ xs ys) (h':LR φ' xs zs) (ih:∀(i:Nat) (x:AV) (y z:Value),xs[i]? =some x→ys[i]? =some y→zs[i]? =some z→VR φ x z):LR φ xs zs:=by
 refine ⟨h'.1,fun i x z hx hz=>?_⟩
 have hi:i<xs.length:=(List.getElem?_eq_some_iff.1 hx).1
 have:i<ys.length:=by rw[←h.1];exact hi
 exact ih i x ys[i] z hx (by simp [this]) hz
theorem VR.back {φ φ':Ph} (hle:φ.le φ') {x:AV} {y:Value} (h:VR φ x y):∀{z:Value},VR φ' x z→VR φ x z:=by
 induction h with
 | bool b=>intro z h;cases h;exact .bool b
 | int k n=>intro z h;cases h;exact .int k n
 | str s=>
   intro z h
   generalize he:AV.str s.data.toList=q at h
   cases h with
   | str s'=>exact .str s'
   | _=>cases he
 | cI=>intro z h;cases h;exact .cI
 | ptr o h=>intro z h';cases h' with | ptr _ h'=>rw[hle _ _ h] at h';cases h';exact .ptr o h
 | aj=>intro z h;cases h;exact .aj
 | slice o len cap op h=>intro z h';cases h' with | slice _ _ _ _ h'=>rw[hle _ _ h] at h';cases h';exact .slice o len cap op h
 | cJ a cap=>intro z h;cases h;exact .cJ _ _
 | cn=>intro z h;cases h;exact .cn
 | map h=>intro z h';cases h' with | map h'=>rw[hle _ _ h] at h';cases h';exact .map h
 | func f a b a' b' la lb ha hb Y4 Y5=>
   intro z h
   obtain ⟨c,d,rfl,hc,hd⟩:=VR.uX h
   have h1:LR φ a c.toList:=LR.rK (ys:=a'.toList) ⟨by simpa using la,fun i x y p q=>ha i x y p (by simpa using q)⟩ hc fun i x y z p q r=>Y4 i x y p (by simpa using q) (hc.2 i x z p r)
   have h2:LR φ b d.toList:=LR.rK (ys:=b'.toList) ⟨by simpa using lb,fun i x y p q=>hb i x y p (by simpa using q)⟩ hd fun i x y z p q r=>Y5 i x y p (by simpa using q) (hd.2 i x z p r)
   have:=VR.JN f h1 h2
   simpa using this
 | nilFunc=>intro z h;cases h;exact .nilFunc
 | yield h=>intro z h';cases h' with | yield h'=>rw[hle _ _ h] at h';cases h';exact .yield h
 | iface t v v' h ih=>intro z h';cases h' with | iface _ _ _ h'=>exact .iface t v _ (ih h')
 | nilIface=>intro z h;cases h;exact .nilIface
 | agg cs eE hl h ih=>
   intro z h'
   obtain ⟨d,rfl,hd⟩:=VR.gK h'
   have h1:LR φ cs d.toList:=LR.rK (ys:=eE.toList) ⟨by simpa using hl,fun i x y p q=>h i x y p (by simpa using q)⟩ hd fun i x y z p q r=>ih i x y p (by simpa using q) (hd.2 i x z p r)
   have:=VR.Ib h1
   simpa using this
 | any v h=>intro z h';cases h' with | any _ h'=>exact .any _ h'
 | tuple cs eE hl h ih=>
   intro z h'
   obtain ⟨d,rfl,hd⟩:=VR.yS h'
   have h1:LR φ cs d.toList:=LR.rK (ys:=eE.toList) ⟨by simpa using hl,fun i x y p q=>h i x y p (by simpa using q)⟩ hd fun i x y z p q r=>ih i x y p (by simpa using q) (hd.2 i x z p r)
   have:=VR.tuple' h1
   simpa using this
theorem LR.back {φ φ':Ph} (hle:φ.le φ') {xs:List AV} {ys zs:List Value} (h:LR φ xs ys) (h':LR φ' xs zs):LR φ xs zs:=
 LR.rK h h' fun i x y z p q r=>(h.2 i x y p q).back hle (h'.2 i x z p r)
theorem OR.back {φ φ':Ph} (hle:φ.le φ') {o:aw} {l:Loc} {x z:Option Obj} (h:OR E φ o l x) (h':OR E φ' o l z):OR E φ o l z:=by
 cases o with
 | cells cs e ro=>
   obtain ⟨C,e1,lo,hi,_,hc⟩:=h
   obtain ⟨D,e2,EZ,Ah,hz,hd⟩:=h'
   refine ⟨D,e2,EZ,Ah,hz,⟨hd.size,fun k x hk=>?_,hd.free,hd.zero⟩,hd.shape⟩
   obtain ⟨y,_,hy⟩:=hc.val k x hk
   obtain ⟨y',h1,J4⟩:=hd.val k x hk
   exact ⟨y',h1,hy.back hle J4⟩
 | map es clock=>
   obtain ⟨_,es1,_,hl,hv⟩:=h
   obtain ⟨h0,es2,hz,N7,hv'⟩:=h'
   refine ⟨h0,es2,hz,N7,fun i x y hx hy=>?_⟩
   have hi:i<es.length:=(List.getElem?_eq_some_iff.1 hx).1
   have:i<es1.toList.length:=by rw[←hl];exact hi
   have a:=hv i x _ hx (List.getElem?_eq_getElem this)
   have b:=hv' i x y hx hy
   exact ⟨a.key.back hle b.key,a.val.back hle b.val,b.born⟩
 | pX s pos=>exact h'
 | uU m since seen mE=>
   cases m with
   | none=>exact h'
   | some m=>
     obtain ⟨_,lm,hm,_⟩:=h
     obtain ⟨h0,lm',N_,hz⟩:=h'
     rw[hle _ _ hm] at N_;cases N_
     exact ⟨h0,lm,hm,hz⟩
 | loop st pd ts ps as_ bd dn=>
   obtain ⟨_,r,_,hr⟩:=h
   obtain ⟨h0,r',hz,JX⟩:=h'
   obtain ⟨ld,hd,_⟩:=hr.defers
   obtain ⟨ld',Q2,EK⟩:=JX.defers
   rw[hle _ _ hd] at Q2;cases Q2
   exact ⟨h0,r',hz,JX.state,JX.pending,hr.tmps.back hle JX.tmps,JX.params,JX.assign,JX.body,⟨ld,hd,EK⟩,JX.fn⟩
 | H_=>exact h'
def Has (h h':ag):Prop:=∀i o,h.get i=some o→h'.get i=some o
theorem Has.refl (h:ag):Has h h:=fun _ _ e=>e
theorem Has.trans {a b c:ag} (x:Has a b) (y:Has b c):Has a c:=fun i o e=>y i o (x i o e)
theorem OK.forget {φ φ':Ph} {h h':ag} {w w':World} (ok:OK E φ h w) (hle:φ.le φ') (nC:OK E φ' h' w') (hs:Has h h'):OK E φ h w' where
 sE:=ok.sE
 nx:=ok.nx
 nK:=ok.nK
 live i o l a b:=(ok.live i o l a b).back hle (nC.live i o l (hs i o a) (hle _ _ b))
 inj:=ok.inj
theorem Fr.forget {φ φ':Ph} {h h':ag} {w w':World} (f:Fr φ h w φ' h' w'):Fr φ h w φ h w' where
 ext:=Ph.le_refl φ
 old _ _:=rfl
 nx:=Nat.le_refl _
 os:=f.os
 tape:=f.tape
 output:=f.output
 size:=f.size
 n6:=f.n6
 own i o l a b c:= .inr ⟨i,o,l,a,b,c,rfl⟩
def AV.plain:Nat→AV→Bool
 | 0,_=>false
 | n+1,x=>match x with
   | .bool _ | .int .. | .str _ | .cI | .aj | .cn | .nilFunc | .nilIface=>true
   | .iface _ v=>AV.plain n v
   | .agg cs=>cs.all (AV.plain n)
   | .tuple cs=>cs.all (AV.plain n)
   | _=>false
theorem VR.plain {φ φ':Ph}:∀(n:Nat) {x:AV} (_:AV.plain n x=true) {y:Value},VR φ' x y→VR φ x y
 | 0,_,h,_,_=>by cases h
 | n+1,x,h,y,hv=>by
   have ih:= @VR.plain φ φ' n
   cases hv with
   | bool b=>exact .bool b
   | int k m=>exact .int k m
   | str s=>exact .str s
   | cI=>exact .cI
   | aj=>exact .aj
   | cn=>exact .cn
   | nilFunc=>exact .nilFunc
   | nilIface=>exact .nilIface
   | iface t v v' h'=>exact .iface t v v' (ih (by simpa [AV.plain] using h) h')
   | agg cs eE hl hc=>
     refine .agg cs eE hl fun i x y a b=>ih ?_ (hc i x y a b)
     simp only[AV.plain,List.all_eq_true] at h
     exact h x (List.mem_of_getElem? a)
   | tuple cs eE hl hc=>
     refine .tuple cs eE hl fun i x y a b=>ih ?_ (hc i x y a b)
     simp only[AV.plain,List.all_eq_true] at h
     exact h x (List.mem_of_getElem? a)
   | _=>cases h
theorem fI.closed {f:FuncId} {args:List AV} {h':ag} {v:AV} (r:fI E f args (Fa.oB E.G []) v h') (ha:args.all (AV.plain 20)=true) (hv:AV.plain 20 v=true) (h:ag):fI E f args h v h:=fun φ w vs ok hl=>by
 let φ0:Ph:=fun i=>if i<E.G then φ i else none
 have hle:φ0.le φ:=fun i l e=>by
  simp only[φ0] at e
  split at e
  · exact e
  · cases e
 have Lg:∀{i o},(Fa.oB E.G []).get i=some o→False:=fun e=>by cases Fa.ta e
 have Z8:OK E φ0 (Fa.oB E.G []) w:=by
  refine ⟨fun i l e=>?_,Nat.le_refl _,fun g hg=>?_,fun i o l e=>(Lg e).elim,fun i j o p l m e=>(Lg e).elim⟩
  · simp only[φ0] at e
    split at e
    · assumption
    · cases e
  · simp only[φ0,hg,if_true];exact ok.nK g hg
 have N5:LR φ0 args vs:=⟨hl.1,fun i x y a b=>(hl.2 i x y a b).plain 20 (List.all_eq_true.1 ha x (List.mem_of_getElem? a))⟩
 obtain ⟨h1,h2⟩:=r φ0 w vs Z8 N5
 refine ⟨h1,fun cs=>?_⟩
 obtain ⟨φ',w',v',fr,x1,x2,x3,x4⟩:=h2 cs
 have Dl:∀b,b<w.heap.size→w'.heap[b]? =w.heap[b]? :=fun b hb=>x3.n6 b hb fun i o l e=>(Lg e).elim
 refine ⟨φ,w',v',fr,x1.plain 20 hv,⟨ok.sE,ok.nx,ok.nK,fun i o l a b=>?_,ok.inj⟩,⟨Ph.le_refl φ,fun _ _=>rfl,Nat.le_refl _,x3.os,x3.tape,x3.output,x3.size,fun b hb _=>Dl b hb,fun i o l a b c=> .inr ⟨i,o,l,a,b,c,rfl⟩⟩,x4⟩
 have hr:=ok.live i o l a b
 by_cases hb:l.cG<w.heap.size
 · rw[Dl _ hb];exact hr
 · rw[Array.getElem?_eq_none (by omega)] at hr
   exact hr.absurd.elim
end Go.Ab
end
