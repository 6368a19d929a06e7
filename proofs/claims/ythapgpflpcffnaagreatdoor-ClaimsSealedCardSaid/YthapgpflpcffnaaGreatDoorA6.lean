import Derived.Laws.Externs
import Derived.Lib.Bytealg
import Derived.Maps.Own
import Derived.Maps.Range
import Derived.Sort.KeysCollected
import GoSem.ClaimChange
import Derived.OpenShut
import Derived.FnData
import Derived.ChangeArms
import Derived.Test.YthapgpflpcffnaaGreatDoorA5
import Derived.Test.YthapgpflpcffnaaGreatDoorA3
import Derived.Test.YthapgpflpcffnaaGreatDoorA1
import Derived.Test.YthapgpflpcffnaaGreatDoorA4
set_option linter.unusedVariables false
set_option linter.unusedSimpArgs false
section
namespace Go.Ab.Fa
variable {E:Env} {F:RF} {n:Nat}
theorem ea {ts:List AV} {x:Operand} {a:AV} (h:b8 E ts x=some a):cF E ts [x]=some [a]:=by simp [cF,bO,h]
theorem vY {ts:List AV} {x y:Operand} {a b:AV} (h:b8 E ts x=some a) (h':b8 E ts y=some b):cF E ts [x,y]=some [a,b]:=by simp [cF,bO,h,h']
theorem K8 (v:AV):QC v=jq v:=by
 cases v with
 | str s=>show some (dX s)=some s.length;rw[cC]
 | _=>rfl
theorem EL {h:ah} {size m:Nat} {v:AV} {l:List AV} (e:G5 h size m v=some l):cN h size m v=some l:=by
 cases v with
 | aK=>
   obtain ⟨h1,e1⟩:=cD (show bc (Nat.beq m 0) (some []) none=some l from e)
   simp only[cN];rw[if_pos (ie h1)];exact e1
 | slice i o len c b=>
   obtain ⟨h1,e1⟩:=cD (show bc (Nat.ble m len) (ob none (fun obj=>qb (fun cs _ _=>bc (Nat.ble (o+m*size) (dX cs)) (some (l7 (l6 cs o) (m*size))) none) none obj) (h.get i)) none=some l from e)
   obtain ⟨obj,h2,e2⟩:=cZ e1
   obtain ⟨cs,el,ro,rfl,e3⟩:=kF e2
   obtain ⟨h3,e4⟩:=cD e3
   have h1:=cy h1
   have h3:=cy h3
   rw[cC] at h3
   rw[j2,j1] at e4
   simp only[cN,h2]
   rw[if_pos h1]
   by_cases h0:m=0
   · subst h0
     rw[if_pos rfl]
     rw[Nat.zero_mul,List.take_zero] at e4
     exact e4
   · rw[if_neg h0,if_pos h3];exact e4
 | _=>exact e
theorem Hu {h:ah} {obj:aF} {f:ah→AV×ah} {p:AV×ah} (e:ob none (fun h'=>some (f h')) (h.new obj)=some p):∃h',h.new obj=some h'∧p=f h':=by
 obtain ⟨h',h1,e1⟩:=cZ e
 exact ⟨h',h1,(Option.some.inj e1).symm⟩
theorem K9 {argTypes:Array TypeId} {sT xT elem:TypeId} {xd:TypeDesc} {size bytes:Nat} {z:AV} (h1:argTypes[0]? =some sT) (h2:argTypes[1]? =some xT) (h3:E.P.underlying sT=some (.slice elem)) (h4:E.P.underlying xT=some xd)
 (h5:gz xd=false) (h6:bb E elem=some size) (h7:eu E elem=some bytes) (h8:cL E elem=some z) (h9:z.cells.length=size)
 {h:ah} {s x:AV} {p:AV×ah} (e:QD elem size bytes h s x=some p):bq E h argTypes s x=some p:=by
 obtain ⟨m,a1,e1⟩:=cZ e
 rw[K8] at a1
 obtain ⟨new,a2,e2⟩:=cZ e1
 have a2:=EL a2
 obtain ⟨a3,e3⟩:=cD e2
 obtain ⟨a4,e4⟩:=cD e3
 rw[kC,z_] at a3
 have a4:=ie a4
 rw[cC] at a4
 unfold bq
 simp only[h1,h2,h3,h4,h5,h6,h7,h8,a1,a2]
 rw[if_neg (by simp)]
 rw[if_pos ⟨h9,a3,a4⟩]
 rcases iV e4 with ⟨rfl,e5⟩ | ⟨i,o,len,cap,op,rfl,e5⟩
 · cases hm:Nat.beq m 0 with
   | true=>
     rw[hm,dR] at e5
     simp only;rw[if_pos (ie hm)];exact e5
   | false=>
     rw[hm,bQ] at e5
     obtain ⟨a5,e6⟩:=cD e5
     have a5:(4*m+4096)*(bytes+1)≤1099511627776:=cy a5
     obtain ⟨h',a6,rfl⟩:=Hu e6
     simp only
     rw[if_neg (by intro ee;rw[ee] at hm;cases hm),if_pos a5]
     simp only[a6]
 · obtain ⟨obj,a5,e6⟩:=cZ e5
   obtain ⟨cs,el,ro,rfl,e7⟩:=kF e6
   obtain ⟨a6,e8⟩:=iv e7
   subst a6
   simp only[a5]
   cases hc:Nat.ble (Nat.add len m) cap with
   | true=>
     rw[hc,dR] at e8
     have hc:len+m≤cap:=cy hc
     obtain ⟨a7,e9⟩:=cD e8
     have a7:o+(len+m)*size≤dX cs:=cy a7
     rw[cC] at a7
     rw[if_pos hc,if_pos a7,←Option.some.inj e9,xU];rfl
   | false=>
     rw[hc,bQ] at e8
     have hc:cap<len+m:=ei hc
     obtain ⟨a7,e9⟩:=cD e8
     have a7:(4*(len+m)+4096)*(bytes+1)≤1099511627776:=cy a7
     obtain ⟨a8,S6⟩:=cD e9
     have a8:o+len*size≤dX cs:=cy a8
     rw[cC] at a8
     rw[if_neg (by omega)]
     cases op with
     | true=>
       rw[dR] at S6
       obtain ⟨a9,Yj⟩:=cD S6
       obtain ⟨S7,Yk⟩:=cD Yj
       have a9:=ie a9
       have S7:o+cap*size=dX cs:=ie S7
       rw[cC] at S7
       obtain ⟨h',QJ,rfl⟩:=Hu Yk
       rw[iu,j2,j1] at QJ
       rw[if_pos ⟨a7,a8,fun _=>⟨a9,S7⟩⟩]
       rw[if_pos rfl]
       have N3:(h.put i none).new (.cells ((cs.drop o).take (len*size)++new) elem false)=some h':=QJ
       simp only[N3];rfl
     | false=>
       rw[bQ] at S6
       obtain ⟨h',QJ,rfl⟩:=Hu S6
       rw[iu,j2,j1] at QJ
       rw[if_pos ⟨a7,a8,fun hh=>by cases hh⟩]
       rw[if_neg (by simp)]
       have N3:h.new (.cells ((cs.drop o).take (len*size)++new) elem false)=some h':=QJ
       simp only[N3];rfl
theorem fT {b:Builtin} (h1:b≠ .len) (h2:b≠ .cap) (h3:b≠ .max) (h4:b≠ .min) (a:Array Operand) (t:Array TypeId):mc E (.call ⟨.builtin b,a,t⟩):=by
 cases b<;>first | exact absurd rfl h1 | exact absurd rfl h2 | exact absurd rfl h3 | exact absurd rfl h4 | exact ⟨fun _=>rfl,fun _ _=>rfl,fun _=>rfl⟩
theorem EM (a:Array Operand) (t:Array TypeId):cI E F n (.call ⟨.builtin .append,a,t⟩) (match a.toList with
 | [s,x]=>wO E F n s (fun gs=>wO E F n x (fun gx=>G6 E t gs gx) .bad) .bad
 | _=> .bad):=by
 have nn:mc E (.call ⟨.builtin .append,a,t⟩):=fT (by simp) (by simp) (by simp) (by simp) a t
 generalize hl:a.toList=l
 match l with
 | []=>trivial
 | [_]=>trivial
 | _::_::_::_=>trivial
 | [s,x]=>
   simp only
   rcases aY E F n s (fun gs=>wO E F n x (fun gx=>G6 E t gs gx) .bad) (.bad:Kd F.T) with h | ⟨gs,h,hs⟩<;>rw[h]
   · trivial
   rcases aY E F n x (fun gx=>G6 E t gs gx) (.bad:Kd F.T) with h | ⟨gx,h,hx⟩<;>rw[h]
   · trivial
   unfold G6
   simp only[di,Array.getElem?_toList,dQ,iX,Hf,qi]
   have fin:∀(f:F.T→ah→Option (AV×ah)),(∀r h p,f r h=some p→bq E h t (gs r) (gx r)=some p)→cI E F n (.call ⟨.builtin .append,a,t⟩) (.wr f):=by
    intro f hf
    refine ⟨nn,fun call r h rc o p ho e=>?_⟩
    simp only[bF,ho,hl,vY (hs r) (hx r),hf r h p e]
   cases h1:t[0]? with
   | none=>trivial
   | some sT=>cases h2:t[1]? with
     | none=>trivial
     | some xT=>
       simp only
       cases h3:E.P.underlying sT with
       | none=>trivial
       | some sd=>cases h4:E.P.underlying xT with
         | none=>cases sd<;>trivial
         | some xd=>cases sd with
           | slice elem=>
             simp only
             cases h5:gz xd with
             | true=>
               rw[if_pos rfl]
               apply fin
               intro r h p e
               unfold bq
               simp only[h1,h2,h3,h4,h5]
               rw[if_pos trivial];exact e
             | false=>
               rw[if_neg (by simp)]
               cases h6:bb E elem with
               | none=>trivial
               | some size=>cases h7:eu E elem with
                 | none=>trivial
                 | some bytes=>cases h8:cL E elem with
                   | none=>trivial
                   | some z=>
                     simp only
                     by_cases h9:z.cells.length=size
                     · rw[if_pos h9]
                       exact fin _ fun r h p e=>K9 h1 h2 h3 h4 h5 h6 h7 h8 h9 e
                     · rw[if_neg h9];trivial
           | _=>trivial
theorem Dy (a:Array Operand) (t:Array TypeId):cI E F n (.call ⟨.builtin .copy,a,t⟩) (match a.toList with
 | [s,x]=>wO E F n s (fun gs=>wO E F n x (fun gx=> .wr fun r h=>nm E h t (gs r) (gx r)) .bad) .bad
 | _=> .bad):=by
 have nn:mc E (.call ⟨.builtin .copy,a,t⟩):=fT (by simp) (by simp) (by simp) (by simp) a t
 generalize hl:a.toList=l
 match l with
 | []=>trivial
 | [_]=>trivial
 | _::_::_::_=>trivial
 | [s,x]=>
   simp only
   rcases aY E F n s (fun gs=>wO E F n x (fun gx=>(.wr fun r h=>nm E h t (gs r) (gx r):Kd F.T)) .bad) (.bad:Kd F.T) with h | ⟨gs,h,hs⟩<;>rw[h]
   · trivial
   rcases aY E F n x (fun gx=>(.wr fun r h=>nm E h t (gs r) (gx r):Kd F.T)) (.bad:Kd F.T) with h | ⟨gx,h,hx⟩<;>rw[h]
   · trivial
   refine ⟨nn,fun call r h rc o p ho e=>?_⟩
   simp only[bF,ho,hl,vY (hs r) (hx r),e]
theorem Cb (a:Array Operand) (t:Array TypeId):cI E F n (.call ⟨.builtin .recover,a,t⟩) (.nf fun _ _ h rc=>match rc with
 | .dV x=> .lg x
 | .y_ _=> .fail "" none
 | _=> .val .nilIface h):=by
 refine ⟨fT (by simp) (by simp) (by simp) (by simp) a t,fun fc call _ r h rc o ho=>?_⟩
 simp only[bF,ho]
 cases rc<;>first | trivial | rfl
theorem N4 (a:Array Operand) (t:Array TypeId):cI E F n (.call ⟨.builtin .len,a,t⟩) (match dY t.toList 0,a.toList with
 | some t,[x]=>wO E F n x (fun g=>match eR E.P t with
   | some .string=> .db fun r=>jJ (fun s=>some (.int .i64 (Int.ofNat (dX s)))) none (g r)
   | some (.array m _)=> .db fun _=>some (.int .i64 (Int.ofNat m))
   | some (.slice _)=> .db fun r=>eC (some (.int .i64 (Int.ofNat 0))) (fun _ _ m _ _=>some (.int .i64 (Int.ofNat m))) (vZ (some (.int .i64 (Int.ofNat 0))) none (g r)) (g r)
   | some (.map _ _)=> .red fun r h=>Df h (g r)
   | _=> .bad) .bad
 | _,_=> .bad):=by
 rw[di,Array.getElem?_toList]
 cases ht:t[0]? with
 | none=>trivial
 | some tt=>
   generalize hl:a.toList=l
   match l with
   | []=>trivial
   | _::_::_=>trivial
   | [x]=>
     simp only[dQ]
     rcases aY E F n x (fun g=>match E.P.underlying tt with
      | some .string=>(.db fun r=>jJ (fun s=>some (.int .i64 (Int.ofNat (dX s)))) none (g r):Kd F.T)
      | some (.array m _)=> .db fun _=>some (.int .i64 (Int.ofNat m))
      | some (.slice _)=> .db fun r=>eC (some (.int .i64 (Int.ofNat 0))) (fun _ _ m _ _=>some (.int .i64 (Int.ofNat m))) (vZ (some (.int .i64 (Int.ofNat 0))) none (g r)) (g r)
      | some (.map _ _)=> .red fun r h=>Df h (g r)
      | _=> .bad) .bad with h | ⟨g,h,hg⟩<;>rw[h]
     · trivial
     cases hu:E.P.underlying tt with
     | none=>trivial
     | some d=>cases d with
       | string=>
         intro r v e
         obtain ⟨s,e1,e2⟩:=fR e
         simp only[aL,ht,hl,ea (hg r),hu,e1]
         rw[←e2,cC];rfl
       | array m el=>
         intro r v e
         simp only[aL,ht,hl,ea (hg r),hu]
         exact e
       | slice el=>
         intro r v e
         rcases z8 e with ⟨e1,e2⟩ | ⟨i,o,l,c,b,e1,e2⟩ | ⟨e1,e2⟩
         · simp only[aL,ht,hl,ea (hg r),hu,e1];exact e2
         · simp only[aL,ht,hl,ea (hg r),hu,e1];exact e2
         · simp only[aL,ht,hl,ea (hg r),hu,e1];exact e2
       | map key el=>
         intro r h v e
         have e:Df h (g r)=some v:=e
         generalize hm:g r=m at e
         cases m with
         | bT=>exact .inl (by simp only[aL,ht,hl,ea (hg r),hu,hm];exact e)
         | map i=>
           refine .inr ⟨by simp only[aL,ht,hl,ea (hg r),hu,hm],?_⟩
           obtain ⟨o,h3,h4⟩:=cZ (show ob none (fun o=>KO (fun es=>some (AV.int .i64 (Int.ofNat (dX es)))) none o) (h.get i)=some v from e)
           cases o with
           | map es c=>
             have h4:some (AV.int .i64 (Int.ofNat (dX es)))=some v:=h4
             simp only[bW,ht,hl,ea (hg r),hu,hm,h3]
             rw[←h4,cC];rfl
           | _=>cases h4
         | _=>cases e
       | _=>trivial
theorem N5 (a:Array Operand) (t:Array TypeId):cI E F n (.call ⟨.builtin .cap,a,t⟩) (match dY t.toList 0,a.toList with
 | some t,[x]=>wO E F n x (fun g=>match eR E.P t with
   | some (.slice _)=> .db fun r=>eC (some (.int .i64 (Int.ofNat 0))) (fun _ _ _ c b=>bc b none (some (.int .i64 (Int.ofNat c)))) none (g r)
   | _=> .bad) .bad
 | _,_=> .bad):=by
 rw[di,Array.getElem?_toList]
 cases ht:t[0]? with
 | none=>trivial
 | some tt=>
   generalize hl:a.toList=l
   match l with
   | []=>trivial
   | _::_::_=>trivial
   | [x]=>
     simp only[dQ]
     rcases aY E F n x (fun g=>match E.P.underlying tt with
      | some (.slice _)=>(.db fun r=>eC (some (.int .i64 (Int.ofNat 0))) (fun _ _ _ c b=>bc b none (some (.int .i64 (Int.ofNat c)))) none (g r):Kd F.T)
      | _=> .bad) .bad with h | ⟨g,h,hg⟩<;>rw[h]
     · trivial
     cases hu:E.P.underlying tt with
     | none=>trivial
     | some d=>cases d with
       | slice el=>
         intro r v e
         rcases iV e with ⟨e1,e2⟩ | ⟨i,o,l,c,b,e1,e2⟩
         · simp only[aL,ht,hl,ea (hg r),hu,e1];exact e2
         · obtain ⟨rfl,e3⟩:=iv e2
           simp only[aL,ht,hl,ea (hg r),hu,e1];exact e3
       | _=>trivial
theorem EN (f:FuncId) (a:Array Operand) (t:Array TypeId):cI E F n (.call ⟨.value (.func f),a,t⟩) (wL E F n a.toList (fun gs=>match E.gN f with
 | some e=> .db fun r=>e (gs r)
 | none=>match E.dM f with
   | some g=> .wr fun r h=>g (gs r) h
   | none=> .call (.fn f) gs) .bad):=by
 rcases mZ E F n a.toList (fun gs=>match E.gN f with
  | some e=>(.db fun r=>e (gs r):Kd F.T)
  | none=>match E.dM f with
    | some g=> .wr fun r h=>g (gs r) h
    | none=> .call (.fn f) gs) .bad with h | ⟨gs,h,hg⟩<;>rw[h]
 · trivial
 cases hp:E.gN f with
 | some e=>
   intro r v h
   simp only[aL,hp,hg];exact h
 | none=>
   have nn:mc E (.call ⟨.value (.func f),a,t⟩):=⟨fun _=>by simp only[aL,hp],fun _ _=>rfl,fun _=>rfl⟩
   have hc:∀r,callee E (cf F n r) ⟨.value (.func f),a,t⟩=some (.fn f,gs r):=by
    intro r
    simp only[callee,hg,b8]
    simp
   cases hs:E.dM f with
   | some g=>
     refine ⟨nn,fun call r h rc o p ho e=>?_⟩
     have e':g (gs r) h=some p:=e
     simp only[bF,ho,hc,eN,hs,e']
   | none=>
     refine ⟨nn,fun call r h rc o ho=>?_⟩
     simp only[bF,ho,hc,eN,hs]
     cases call (.fn f) (gs r) h<;>rfl
theorem s_ {a b:eg} (h1:∀v h',a= .ret v h'→b= .ret v h') (h2:∀v h',a= .panic v h'→b= .panic v h'):ML (gV a) (gV b):=by
 cases a with
 | ret v h=>rw[h1 v h rfl];rfl
 | panic v h=>rw[h2 v h rfl];rfl
 | fail _ _=>trivial
theorem nR (x:Operand) (hx:∀f,x≠ .func f) (a:Array Operand) (t:Array TypeId):cI E F n (.call ⟨.value x,a,t⟩) (wO E F n x (fun gf=>wL E F n a.toList (fun gs=> .nf fun call r h _=>Dc
 (fun g first captured=>ob (gV (call (.fn g) (fJ first (fJ (gs r) captured)) h)) (fun sp=>ob (.fail "" none) (fun p=> .val p.1 p.2) (sp (fJ first (fJ (gs r) captured)) h)) (E.dM g))
 (fun l=>gV (call (.qK l) (gs r) h)) (.fail "" none) (gf r)) .bad) .bad):=by
 have nn:mc E (.call ⟨.value x,a,t⟩):=by
  cases x with
  | func f=>exact absurd rfl (hx f)
  | _=>exact ⟨fun _=>rfl,fun _ _=>rfl,fun _=>rfl⟩
 let K:(F.T→AV)→(F.T→List AV)→Kd F.T:=fun gf gs=> .nf fun call r h _=>Dc
  (fun g first captured=>ob (gV (call (.fn g) (fJ first (fJ (gs r) captured)) h)) (fun sp=>ob (.fail "" none) (fun p=> .val p.1 p.2) (sp (fJ first (fJ (gs r) captured)) h)) (E.dM g))
  (fun l=>gV (call (.qK l) (gs r) h)) (.fail "" none) (gf r)
 show cI E F n _ (wO E F n x (fun gf=>wL E F n a.toList (fun gs=>K gf gs) .bad) .bad)
 rcases aY E F n x (fun gf=>wL E F n a.toList (fun gs=>K gf gs) .bad) .bad with h | ⟨gf,h,hf⟩<;>rw[h]
 · trivial
 rcases mZ E F n a.toList (fun gs=>K gf gs) .bad with h | ⟨gs,h,hg⟩<;>rw[h]
 · trivial
 refine ⟨nn,fun fc call hle r h rc o ho=>?_⟩
 have ec:∀R,callee E (cf F n r) ⟨.value x,a,t⟩=R→bF E call (cf F n r) h rc o=(match R with
  | some (f,args)=>match eN E f with
    | some g=>(match g args h with | some (x,h')=> .val x h' | none=> .fail "eff" (some o))
    | none=>gV (call f args h)
  | none=> .fail "callee" (some o)):=by
  intro R hR
  simp only[bF,ho,hR]
  cases R with
  | none=>rfl
  | some p=>
    obtain ⟨f,args⟩:=p
    simp only
    cases eN E f with
    | none=>simp only;cases call f args h<;>rfl
    | some g=>rfl
 show ML (Dc _ _ _ (gf r)) _
 cases hv:gf r with
 | func g first captured=>
   have hc:callee E (cf F n r) ⟨.value x,a,t⟩=some (.fn g,first++gs r++captured):=by
    simp only[callee,hf,hg,hv]
   rw[ec _ hc]
   have ha:fJ first (fJ (gs r) captured)=first++gs r++captured:=by rw[iu,iu,List.append_assoc]
   show ML (ob (gV (fc (.fn g) (fJ first (fJ (gs r) captured)) h)) (fun sp=>ob (.fail "" none) (fun p=> .val p.1 p.2) (sp (fJ first (fJ (gs r) captured)) h)) (E.dM g)) _
   rw[ha]
   simp only[eN]
   cases hs:E.dM g with
   | none=>exact s_ (hle _ _ _).1 (hle _ _ _).2
   | some sp=>
     show ML (ob (.fail "" none) (fun p=> .val p.1 p.2) (sp (first++gs r++captured) h)) _
     simp only
     cases sp (first++gs r++captured) h with
     | none=>trivial
     | some p=>rfl
 | lF l=>
   have hc:callee E (cf F n r) ⟨.value x,a,t⟩=some (.qK l,gs r):=by
    simp only[callee,hf,hg,hv]
   rw[ec _ hc]
   simp only[eN]
   exact s_ (hle _ _ _).1 (hle _ _ _).2
 | _=>trivial
theorem EO (x:Operand) (name:String) (a:Array Operand) (t:Array TypeId):cI E F n (.call ⟨.invoke x name,a,t⟩) (wO E F n x (fun gx=>wL E F n a.toList (fun gs=> .nf fun call r h _=>kz
 (fun t v=>ob (.fail "" none) (fun f=>gV (call (.fn f) (v::gs r) h)) (zY E t name)) (.fail "" none) (gx r)) .bad) .bad):=by
 have nn:mc E (.call ⟨.invoke x name,a,t⟩):=⟨fun _=>rfl,fun _ _=>rfl,fun _=>rfl⟩
 let K:(F.T→AV)→(F.T→List AV)→Kd F.T:=fun gx gs=> .nf fun call r h _=>kz
  (fun t v=>ob (.fail "" none) (fun f=>gV (call (.fn f) (v::gs r) h)) (zY E t name)) (.fail "" none) (gx r)
 show cI E F n _ (wO E F n x (fun gx=>wL E F n a.toList (fun gs=>K gx gs) .bad) .bad)
 rcases aY E F n x (fun gx=>wL E F n a.toList (fun gs=>K gx gs) .bad) .bad with h | ⟨gx,h,hx⟩<;>rw[h]
 · trivial
 rcases mZ E F n a.toList (fun gs=>K gx gs) .bad with h | ⟨gs,h,hg⟩<;>rw[h]
 · trivial
 refine ⟨nn,fun fc call hle r h rc o ho=>?_⟩
 show ML (kz _ _ (gx r)) _
 cases hv:gx r with
 | iface u v=>
   show ML (ob (.fail "" none) (fun f=>gV (fc (.fn f) (v::gs r) h)) (zY E u name)) _
   cases hm:zY E u name with
   | none=>trivial
   | some f=>
     have N6:oh E u name=some f:=hm
     have ec:bF E call (cf F n r) h rc o=gV (call (.fn f) (v::gs r) h):=by
      simp only[bF,ho,hx,hg,hv,N6]
      cases call (.fn f) (v::gs r) h<;>rfl
     rw[ec]
     exact s_ (hle _ _ _).1 (hle _ _ _).2
 | _=>trivial
theorem Hv (c:Call):cI E F n (.call c) (MI E F n c (.call c)):=by
 obtain ⟨dJ,a,t⟩:=c
 cases dJ with
 | value x=>cases x with
   | func f=>exact EN f a t
   | tmp x=>exact nR (.tmp x) (by simp) a t
   | const x=>exact nR (.const x) (by simp) a t
   | global x=>exact nR (.global x) (by simp) a t
 | invoke r m=>exact EO r m a t
 | builtin b=>cases b with
   | append=>exact EM a t
   | copy=>exact Dy a t
   | recover=>exact Cb a t
   | len=>exact N4 a t
   | cap=>exact N5 a t
   | max=>exact fun r v e=>e
   | min=>exact fun r v e=>e
   | _=>trivial
theorem Ah (op:Op):cI E F n op (nv E F n op):=by
 cases op with
 | move x=>
   show cI E F n _ (wO E F n x .zb .bad)
   rcases aY E F n x .zb (.bad:Kd F.T) with h | ⟨g,h,hg⟩<;>rw[h]
   · trivial
   · exact hg
 | assign x=>
   show cI E F n _ (wO E F n x .zb .bad)
   rcases aY E F n x .zb (.bad:Kd F.T) with h | ⟨g,h,hg⟩<;>rw[h]
   · trivial
   · exact hg
 | pick c a b=>exact K5 c a b
 | binOp op t x y yt=>
   show cI E F n _ (wO E F n x (fun gx=>wO E F n y (fun gy=>aJ op (eT E op t (isConst x) (isConst y)) gx gy) .bad) .bad)
   rcases aY E F n x (fun gx=>wO E F n y (fun gy=>aJ op (eT E op t (isConst x) (isConst y)) gx gy) .bad) (.bad:Kd F.T) with h | ⟨gx,h,hx⟩<;>rw[h]
   · trivial
   rcases aY E F n y (fun gy=>aJ op (eT E op t (isConst x) (isConst y)) gx gy) (.bad:Kd F.T) with h | ⟨gy,h,hy⟩<;>rw[h]
   · trivial
   exact K3 op t x y yt gx gy hx hy
 | unOp op t x=>
   show cI E F n _ (wO E F n x (QB op) .bad)
   rcases aY E F n x (QB op) (.bad:Kd F.T) with h | ⟨g,h,hg⟩<;>rw[h]
   · trivial
   exact NY op t x g hg
 | fieldAddr s x f=>exact xW s x f
 | load t a=>exact K4 t a
 | store t a x=>exact Ho t a x
 | nilCheck x=>exact Ac x
 | extract x i=>exact B' x i
 | field s x f=>exact Hl s x f
 | indexAddr t x ix=>exact xX t x ix
 | index t x ix=>exact Hm t x ix
 | slice t x lo hi mx=>cases mx with
   | none=>exact Hn t x lo hi
   | some m=>exact fun r v e=>e
 | convert s d x=>exact Ca s d x
 | makeInterface t x=>exact qj t x
 | makeFunc f a b=>cases f with
   | func f=>exact Ae f a b
   | _=>trivial
 | alloc t=>exact Hp t
 | box t x=>exact N2 t x
 | buildSlice t len parts=>exact vo t len parts
 | makeSlice t l c=>exact xY t l c
 | makeMap t r=>cases r with
   | none=>exact ⟨fun _=>rfl,fun _ _=>rfl,fun r p e=>e⟩
   | some x=>exact ⟨fun _=>rfl,fun _ _=>rfl,fun r p e=>e⟩
 | range t x=>exact ⟨fun _=>rfl,fun _ _=>rfl,fun r p e=>e⟩
 | lookup t x ix ok=>exact EJ t x ix ok
 | build t parts=>exact Hr t parts
 | typeAssert x a b ok=>exact fun r v e=>e
 | mapUpdate t m k x=>exact xZ t m k x
 | insert t m k x=>exact EK t m k x
 | next it s=>exact K7 it s
 | panic x=>exact Hs x
 | defer c=>exact Ht c
 | call c=>exact Hv c
 | _=>trivial
end Go.Ab.Fa
end
section
namespace Go.Ab.Fa
variable {E:Env} {F:RF} {n:Nat}
def lA (_E:Env) (F:RF) (n:Nat) (o:FO F.T) (out:Out):Prop:=match o with
 | .zV r h y=>out= .ok .normal ⟨cf F n r,h,y.ds,y.rc⟩
 | .jmp e r h y=>e≠ .normal∧out= .ok e ⟨cf F n r,h,y.ds,y.rc⟩
 | .bad=>True
theorem x7 {call:aI} {s:St} {o:Oper} {v:AV} (h:aL E s.ts o.op=some v):wX E call s o= .ok .normal {s with ts:=bR s.ts o.dst v}:=by
 simp only[wX,h]
theorem K_ {call:aI} {s:St} {o:Oper} {v:AV} (h0:aL E s.ts o.op=none) (h:bW E s.ts s.h o.op=some v):wX E call s o= .ok .normal {s with ts:=bR s.ts o.dst v}:=by
 simp only[wX,h0,h]
theorem x8 {call:aI} {s:St} {o:Oper} (nn:mc E o.op):wX E call s o=(match bF E call s.ts s.h s.rc o with
 | .val v h'=> .ok .normal {s with ts:=bR s.ts o.dst v,h:=h'}
 | .defer d=> .ok .normal {s with ts:=bR s.ts o.dst AV.undef,ds:=d::s.ds}
 | .lg v=> .ok .normal {s with ts:=bR s.ts o.dst v,rc:= .done}
 | .panic v h'=> .ok (.panic v) {s with h:=h'}
 | .fail why q=> .fail why q):=by
 simp only[wX,nn.1,nn.2.1,nn.2.2]
 generalize bF E call s.ts s.h s.rc o=x
 cases x<;>rfl
noncomputable def QK (E:Env) (call:aI) (ops:Array Oper) (rest:List Oper) (out:Out):Out:=match out with
 | .ok .normal s'=>eV E call ops rest s'
 | r=>r
theorem La {ops:Array Oper} {o:Oper} {rest:List Oper} {kd:Kd F.T} {s:AV→F.T→F.T} {j:I F.T} {fc call:aI} (hle:e_ fc call) (hk:cI E F n o.op kd)
 (hs:∀v r,bR (cf F n r) o.dst v=cf F n (s v r)) (hj:∀r h y,lA E F n (j.run fc r h y) (eV E call ops rest ⟨cf F n r,h,y.ds,y.rc⟩)) (r:F.T) (h:ah) (y:Y):
 lA E F n ((B6 kd s j).run fc r h y) (QK E call ops rest (wX E call ⟨cf F n r,h,y.ds,y.rc⟩ o)):=by
 cases kd with
 | zb g=>
   rw[x7 (s:=⟨cf F n r,h,y.ds,y.rc⟩) (hk r)]
   show lA E F n (j.run fc (s (g r) r) h y) (eV E call ops rest ⟨bR (cf F n r) o.dst (g r),h,y.ds,y.rc⟩)
   rw[hs];exact hj _ _ _
 | db f=>
   show lA E F n (ob .bad (fun v=>j.run fc (s v r) h y) (f r)) _
   cases hf:f r with
   | none=>trivial
   | some v=>
     rw[x7 (s:=⟨cf F n r,h,y.ds,y.rc⟩) (hk r v hf)]
     show lA E F n (j.run fc (s v r) h y) (eV E call ops rest ⟨bR (cf F n r) o.dst v,h,y.ds,y.rc⟩)
     rw[hs];exact hj _ _ _
 | red f=>
   show lA E F n (ob .bad (fun v=>j.run fc (s v r) h y) (f r h)) _
   cases hf:f r h with
   | none=>trivial
   | some v=>
     rcases hk r h v hf with h0 | ⟨h0,h1⟩
     · rw[x7 (s:=⟨cf F n r,h,y.ds,y.rc⟩) h0]
       show lA E F n (j.run fc (s v r) h y) (eV E call ops rest ⟨bR (cf F n r) o.dst v,h,y.ds,y.rc⟩)
       rw[hs];exact hj _ _ _
     rw[K_ (s:=⟨cf F n r,h,y.ds,y.rc⟩) h0 h1]
     show lA E F n (j.run fc (s v r) h y) (eV E call ops rest ⟨bR (cf F n r) o.dst v,h,y.ds,y.rc⟩)
     rw[hs];exact hj _ _ _
 | lK f=>
   obtain ⟨h0,h1,h2⟩:=hk
   show lA E F n (ob .bad (fun p=>ob .bad (fun h'=>j.run fc (s (p.2 h.nx) r) h' y) (h.new p.1)) (f r)) _
   cases hf:f r with
   | none=>trivial
   | some p=>
     obtain ⟨obj,mk⟩:=p
     show lA E F n (ob .bad (fun h'=>j.run fc (s (mk h.nx) r) h' y) (h.new obj)) _
     cases hh:h.new obj with
     | none=>trivial
     | some h'=>
       have:wX E call ⟨cf F n r,h,y.ds,y.rc⟩ o= .ok .normal ⟨bR (cf F n r) o.dst (mk h.nx),h',y.ds,y.rc⟩:=by
        simp only[wX,h0,h1,h2 r _ hf,hh]
       rw[this,hs];exact hj _ _ _
 | wr f=>
   obtain ⟨nn,h1⟩:=hk
   show lA E F n (ob .bad (fun p=>j.run fc (s p.1 r) p.2 y) (f r h)) _
   cases hf:f r h with
   | none=>trivial
   | some p=>
     rw[x8 nn,h1 call r h y.rc o p rfl hf]
     show lA E F n (j.run fc (s p.1 r) p.2 y) (eV E call ops rest ⟨bR (cf F n r) o.dst p.1,p.2,y.ds,y.rc⟩)
     rw[hs];exact hj _ _ _
 | call g args=>
   obtain ⟨nn,h1⟩:=hk
   rw[x8 nn,h1 call r h y.rc o rfl]
   show lA E F n (eg.rec (motive:=fun _=>FO F.T) (fun v h'=>j.run fc (s v r) h' y) (fun v h'=> .jmp (.panic v) r h' y) (fun _ _=> .bad) (fc g (args r) h)) _
   cases hc:fc g (args r) h with
   | fail _ _=>trivial
   | ret v h'=>
     rw[(hle _ _ _).1 v h' hc]
     show lA E F n (j.run fc (s v r) h' y) (eV E call ops rest ⟨bR (cf F n r) o.dst v,h',y.ds,y.rc⟩)
     rw[hs];exact hj _ _ _
   | panic v h'=>
     rw[(hle _ _ _).2 v h' hc]
     exact ⟨by simp,rfl⟩
 | nf f=>
   obtain ⟨nn,h1⟩:=hk
   rw[x8 nn]
   have h2:=h1 fc call hle r h y.rc o rfl
   show lA E F n (pO.rec (motive:=fun _=>FO F.T) (fun v h'=>j.run fc (s v r) h' y) (fun d=>j.run fc (s AV.undef r) h ⟨d::y.ds,y.rc⟩) (fun v=>j.run fc (s v r) h ⟨y.ds,.done⟩)
    (fun v h'=> .jmp (.panic v) r h' y) (fun _ _=> .bad) (f fc r h y.rc)) _
   cases he:f fc r h y.rc with
   | fail _ _=>trivial
   | val v h'=>
     rw[he] at h2
     have h2:bF E call (cf F n r) h y.rc o= .val v h':=h2
     rw[h2]
     show lA E F n (j.run fc (s v r) h' y) (eV E call ops rest ⟨bR (cf F n r) o.dst v,h',y.ds,y.rc⟩)
     rw[hs];exact hj _ _ _
   | defer d=>
     rw[he] at h2
     have h2:bF E call (cf F n r) h y.rc o= .defer d:=h2
     rw[h2]
     show lA E F n (j.run fc (s AV.undef r) h ⟨d::y.ds,y.rc⟩) (eV E call ops rest ⟨bR (cf F n r) o.dst AV.undef,h,d::y.ds,y.rc⟩)
     rw[hs];exact hj _ _ ⟨d::y.ds,y.rc⟩
   | lg v=>
     rw[he] at h2
     have h2:bF E call (cf F n r) h y.rc o= .lg v:=h2
     rw[h2]
     show lA E F n (j.run fc (s v r) h ⟨y.ds,.done⟩) (eV E call ops rest ⟨bR (cf F n r) o.dst v,h,y.ds,.done⟩)
     rw[hs];exact hj _ _ ⟨y.ds,.done⟩
   | panic v h'=>
     rw[he] at h2
     have h2:bF E call (cf F n r) h y.rc o= .panic v h':=h2
     rw[h2]
     exact ⟨by simp,rfl⟩
 | bad=>trivial
def qk (ts:List AV) (d:Nat) (want:Bool):Bool:=match ts[d]? with
 | some (.bool b)=>b==want
 | _=>false
theorem qZ {ts:List AV} {d:Nat} (h:ts.length≤d) (want:Bool):qk ts d want=false:=by
 unfold qk;rw[List.getElem?_eq_none h]
theorem q8 {ts:List AV} {d:Nat} {v:AV} (h:ts[d]? =some v) (want:Bool):qk ts d want=eB (fun b=>b==want) false v:=by
 unfold qk;rw[h];cases v<;>rfl
theorem oP (ops:Array Oper) (ts:List AV) (o:Oper) {j:Nat} {want:Bool} (hg:o.guard=some (j,want)):bp ops ts o=(match (ops[j]?).bind (·.dst) with
 | some d=>match ts[d]? with
   | some (.bool b)=>b==want
   | _=>false
 | none=>false):=by simp only[bp,hg];rfl
theorem Hw (ops:Array Oper) (j:Nat):ob none (fun p=>p.dst) (dY ops.toList j)=(ops[j]?).bind (·.dst):=by
 rw[di,Array.getElem?_toList];cases ops[j]? <;>rfl
theorem Hx (Yl:n≤F.N) (ops:Array Oper) (o:Oper) (a b:I F.T) (call:aI) (r:F.T) (h:ah) (y:Y):
 (Di F n ops o a b).run call r h y=bif bp ops (cf F n r) o then a.run call r h y else b.run call r h y:=by
 unfold Di
 cases hg:o.guard with
 | none=>simp only[bp,hg];rfl
 | some p=>
   obtain ⟨j,want⟩:=p
   rw[oP ops _ o hg]
   simp only[Hw]
   cases (ops[j]?).bind (·.dst) with
   | none=>rfl
   | some d=>
     show (bc (Nat.ble n d) b (B7 (F.get d).f want a b)).run call r h y=bif qk (cf F n r) d want then a.run call r h y else b.run call r h y
     cases hd:Nat.ble n d with
     | true=>
       rw[qZ (by rw[dP];exact cy hd)];rfl
     | false=>
       rw[q8 (mV F n r (ei hd)),bQ]
       cases want with
       | true=>
         show eB (fun t=>bc t (a.run call r h y) (b.run call r h y)) (b.run call r h y) ((F.get d).f r)=_
         cases (F.get d).f r with
         | bool t=>cases t<;>rfl
         | _=>rfl
       | false=>
         show eB (fun t=>bc t (b.run call r h y) (a.run call r h y)) (b.run call r h y) ((F.get d).f r)=_
         cases (F.get d).f r with
         | bool t=>cases t<;>rfl
         | _=>rfl
theorem Ai (Yl:n≤F.N) (ops:Array Oper) (o:Oper) (a b:D F.T) (call:aI) (r:F.T) (h:ah) (y:Y):
 (qW F n ops o a b).run call r h y=bif bp ops (cf F n r) o then a.run call r h y else b.run call r h y:=by
 unfold qW
 cases hg:o.guard with
 | none=>simp only[bp,hg];rfl
 | some p=>
   obtain ⟨j,want⟩:=p
   rw[oP ops _ o hg]
   simp only[Hw]
   cases (ops[j]?).bind (·.dst) with
   | none=>rfl
   | some d=>
     show (bc (Nat.ble n d) b (G9 (F.get d).f want a b)).run call r h y=bif qk (cf F n r) d want then a.run call r h y else b.run call r h y
     cases hd:Nat.ble n d with
     | true=>
       rw[qZ (by rw[dP];exact cy hd)];rfl
     | false=>
       rw[q8 (mV F n r (ei hd)),bQ]
       cases want with
       | true=>
         show eB (fun t=>bc t (a.run call r h y) (b.run call r h y)) (b.run call r h y) ((F.get d).f r)=_
         cases (F.get d).f r with
         | bool t=>cases t<;>rfl
         | _=>rfl
       | false=>
         show eB (fun t=>bc t (b.run call r h y) (a.run call r h y)) (b.run call r h y) ((F.get d).f r)=_
         cases (F.get d).f r with
         | bool t=>cases t<;>rfl
         | _=>rfl
theorem ta (hn:n≤F.N) {fc call:aI} (hle:e_ fc call) (ops:Array Oper):∀(l:List Oper) (r:F.T) (h:ah) (y:Y),
 lA E F n ((mY E F n ops l).run fc r h y) (eV E call ops l ⟨cf F n r,h,y.ds,y.rc⟩)
 | [],r,h,y=>rfl
 | o::rest,r,h,y=>by
   have ih:=ta hn hle ops rest
   show lA E F n ((G7 E F n ops o (mY E F n ops rest)).run fc r h y) _
   unfold G7
   obtain ⟨s,h1,hs⟩:=Dw F n hn o.dst (fun s=>Di F n ops o (B6 (nv E F n o.op) s (mY E F n ops rest)) (MJ s (mY E F n ops rest)))
   rw[h1,Hx hn]
   rw[eV]
   cases hw:bp ops (cf F n r) o with
   | true=>
     rw[if_pos rfl]
     exact La hle (Ah o.op) hs ih r h y
   | false=>
     rw[if_neg (by simp)]
     show lA E F n ((mY E F n ops rest).run fc (s AV.undef r) h y) _
     simp only[hs]
     exact ih _ _ _
def madeOf:TK→Option Nat
 | .lK n _=>some n
 | _=>none
theorem oQ (x:Step) (t:List Step):kf (x::t)=match madeOf x.kind with | none=>kf t | some i=>i::kf t:=by
 show List.filterMap (fun x:Step=>madeOf x.kind) (x::t)=_
 rw[List.filterMap_cons];cases madeOf x.kind<;>rfl
inductive jA (E:Env) (ops:Array Oper) (pl:gA):List EF→List Step→Prop
 | nil:jA E ops pl [] []
 | skip {x:Step} {c:List EF} {t:List Step} (hs:∀h,ey E ops x h=true) (hm:madeOf x.kind=none) (ht:jA E ops pl c t):jA E ops pl c (x::t)
 | Lb {x:Step} {c0:EF} {c:List EF} {t:List Step} (hk:c0.k=x.k) (hl:c0.m=eW pl.aR pl.an x.i+1 - x.k) (hm:madeOf x.kind=c0.made)
  (hs:∀h,c0.f h=true→ey E ops x h=true) (ht:jA E ops pl c t):jA E ops pl (c0::c) (x::t)
theorem jA.made {ops:Array Oper} {pl:gA} {c:List EF} {t:List Step} (h:jA E ops pl c t):Dm c=kf t:=by
 induction h with
 | nil=>rfl
 | skip hs hm ht ih=>rw[oQ,hm];exact ih
 | Lb hk hl hm hs ht ih=>
   rename_i x c0 c t
   show ob (Dm c) (fun i=>i::Dm c) c0.made=_
   rw[oQ,hm,ih]
   cases c0.made<;>rfl
theorem jA.all {ops:Array Oper} {pl:gA} {hs:List ah} {c:List EF} {t:List Step} (h:jA E ops pl c t) (e:c.all (fun x=>qc x.f (l7 (l6 hs x.k) x.m))=true):
 t.all (fun x=>((hs.drop x.k).take (eW pl.aR pl.an x.i+1 - x.k)).all (ey E ops x))=true:=by
 induction h with
 | nil=>rfl
 | skip kn hm ht ih=>
   rw[List.all_cons,ih e,Bool.and_true,List.all_eq_true]
   intro h _;exact kn h
 | Lb hk hl hm kn ht ih=>
   rw[List.all_cons,Bool.and_eq_true] at e
   rw[List.all_cons,ih e.2,Bool.and_true,List.all_eq_true]
   have e1:=e.1
   rw[kC,j2,j1,List.all_eq_true,hk,hl] at e1
   intro h hh;exact kn h (e1 h hh)
theorem tb {ops:Array Oper} {pl:gA} {hs:List ah} {c:List EF} {t:List Step} (h:jA E ops pl c t) (e:kE c hs=true):kg E ops pl t hs=true:=by
 unfold kE at e
 rw[iU,Bool.and_eq_true,qf,kC,h.made] at e
 unfold kg
 rw[Bool.and_eq_true]
 exact ⟨e.1,h.all e.2⟩
def ve (E:Env) (F:RF) (n:Nat) (ops:Array Oper) (pl:gA) (d:DO F.T) (t:eO):Prop:=match d with
 | .ok tr hs r h y=>∃Bt,t= .ok Bt hs ⟨cf F n r,h,y.ds,y.rc⟩∧jA E ops pl tr Bt
 | .bad=>True
theorem ve.skip {ops:Array Oper} {pl:gA} {d:DO F.T} {t:eO} (h:ve E F n ops pl d t) {x:Step} (hs:∀h,ey E ops x h=true) (hm:madeOf x.kind=none):ve E F n ops pl d (t.step x):=by
 cases d with
 | bad=>trivial
 | ok tr kn r h' y=>
   obtain ⟨Bt,rfl,h2⟩:=h
   exact ⟨x::Bt,rfl,.skip hs hm h2⟩
theorem ve.bound {ops:Array Oper} {pl:gA} {d:DO F.T} {t:eO} (h:ve E F n ops pl d t) (h0:ah):ve E F n ops pl (kD h0 d) (t.bound h0):=by
 cases d with
 | bad=>trivial
 | ok tr kn r h' y=>
   obtain ⟨Bt,rfl,h2⟩:=h
   exact ⟨Bt,rfl,h2⟩
theorem ve.Lb {ops:Array Oper} {pl:gA} {d:DO F.T} {t:eO} (h:ve E F n ops pl d t) {x:Step} {c:EF} (hk:c.k=x.k) (hl:c.m=eW pl.aR pl.an x.i+1 - x.k)
 (hm:madeOf x.kind=c.made) (hs:∀h,c.f h=true→ey E ops x h=true):ve E F n ops pl (vW c d) (t.step x):=by
 cases d with
 | bad=>trivial
 | ok tr kn r h' y=>
   obtain ⟨Bt,rfl,h2⟩:=h
   exact ⟨x::Bt,rfl,.Lb hk hl hm hs h2⟩
theorem Aj:∀(m:Nat) (x y:AV),sY m x y=true→AV.same m x y=true
 | 0,_,_,e=>by cases e
 | m+1,x,y,e=>by
   have ih:=Aj m
   have all:∀(a b:List AV),leq (sY m) a b=true→bK (AV.same m) a b=true:=by
    intro a
    induction a with
    | nil=>intro b;cases b<;>intro e<;>first | rfl | cases e
    | cons x tl Ym=>
      intro b
      cases b with
      | nil=>intro e;cases e
      | cons y tm=>
        intro e
        have e:bc (sY m x y) (leq (sY m) tl tm) false=true:=e
        rw[iU,Bool.and_eq_true] at e
        rw[bK,Bool.and_eq_true]
        exact ⟨ih _ _ e.1,Ym _ e.2⟩
   cases x with
   | int k a=>cases y with
     | int j b=>
       have e:bc (GN k j) (ME a b) false=true:=e
       rw[iU,Bool.and_eq_true,B9] at e
       rw[AV.same,Dr e.1,e.2];simp
     | _=>cases e
   | str a=>cases y with
     | str b=>
       have e:leq sR a b=true:=e
       rw[B_] at e
       rw[AV.same];exact e
     | _=>cases e
   | ptr i o=>cases y with
     | ptr j p=>
       have e:bc (Nat.beq i j) (Nat.beq o p) false=true:=e
       rw[iU,Bool.and_eq_true] at e
       rw[AV.same,ie e.1,ie e.2];simp
     | _=>cases e
   | bool a=>cases y with
     | bool b=>
       have e:bc a b (nP b)=true:=e
       rw[AV.same]
       cases a<;>cases b<;>first | rfl | cases e
     | _=>cases e
   | agg a=>cases y with
     | agg b=>rw[AV.same];exact all a b e
     | _=>cases e
   | _=>exact e
theorem tc (hn:n≤F.N) {fc call:aI} (hle:e_ fc call) (ops:Array Oper) (pl:gA):∀(l:List Nat) (k:Nat) (r:F.T) (h:ah) (y:Y),
 ve E F n ops pl ((ep E F n ops pl l k).run fc r h y) (bz E call ops l k ⟨cf F n r,h,y.ds,y.rc⟩)
 | [],k,r,h,y=>⟨[],rfl,.nil⟩
 | i::rest,k,r,h,y=>by
   have ih:=tc hn hle ops pl rest
   rw[bz]
   show ve E F n ops pl (D.run (ob ⟨fun _ _ _ _=> .bad⟩ (fun o=>wS F n o.dst fun s=>
    bc (jZ E o.op) (canon (k+1) fun k'=>qW F n ops o (Dj (nv E F n o.op) s (ep E F n ops pl rest k')) (B8 s (ep E F n ops pl rest k')))
     (canon (rZ pl.aR pl.an i+1 - k) fun m=>qW F n ops o (Dk k m (nv E F n o.op) s (ep E F n ops pl rest k)) (G8 s (ep E F n ops pl rest k)))) (dY ops.toList i)) fc r h y) _
   rw[di,Array.getElem?_toList]
   cases ho:ops[i]? with
   | none=>trivial
   | some o=>
     have cX:(ops.getD i default).op=o.op:=by rw[Array.getD_eq_getD_getElem?,ho];rfl
     simp only[KR,fM,ma,B4]
     obtain ⟨s,h1,hs⟩:=Dw F n hn o.dst (fun s=>
      bc (ct E o.op) (qW F n ops o (Dj (nv E F n o.op) s (ep E F n ops pl rest (k+1))) (B8 s (ep E F n ops pl rest (k+1))))
      (qW F n ops o (Dk k (eW pl.aR pl.an i+1 - k) (nv E F n o.op) s (ep E F n ops pl rest k)) (G8 s (ep E F n ops pl rest k))))
     rw[h1]
     have hk:=Ah (E:=E) (F:=F) (n:=n) o.op
     generalize nv E F n o.op=kd at hk
     cases he:ct E o.op with
     | true=>
       rw[dR,Ai hn,if_pos rfl]
       cases hw:bp ops (cf F n r) o with
       | false=>
         rw[if_neg (by simp)]
         show ve E F n ops pl (kD h ((ep E F n ops pl rest (k+1)).run fc (s AV.undef r) h y)) _
         simp only[hs]
         exact ((ih _ _ _ _).bound h).skip (fun _=>rfl) rfl
       | true=>
         rw[if_pos rfl]
         show ve E F n ops pl ((Dj kd s (ep E F n ops pl rest (k+1))).run fc r h y) _
         cases kd with
         | wr f=>
           show ve E F n ops pl (ob .bad (fun p=>kD h ((ep E F n ops pl rest (k+1)).run fc (s p.1 r) p.2 y)) (f r h)) _
           cases hf:f r h with
           | none=>trivial
           | some p=>
             simp only[hk.2 call r h y.rc o p rfl hf,hs]
             exact ((ih _ _ _ _).bound h).skip (fun _=>rfl) rfl
         | call g args=>
           show ve E F n ops pl (eg.rec (motive:=fun _=>DO F.T) (fun v h'=>kD h ((ep E F n ops pl rest (k+1)).run fc (s v r) h' y)) (fun _ _=> .bad) (fun _ _=> .bad) (fc g (args r) h)) _
           cases hc:fc g (args r) h with
           | fail _ _=>trivial
           | panic _ _=>trivial
           | ret v h'=>
             simp only[hk.2 call r h y.rc o rfl,(hle _ _ _).1 v h' hc,gV,hs]
             exact ((ih _ _ _ _).bound h).skip (fun _=>rfl) rfl
         | nf f=>
           show ve E F n ops pl (pO.rec (motive:=fun _=>DO F.T) (fun v h'=>kD h ((ep E F n ops pl rest (k+1)).run fc (s v r) h' y)) (fun _=> .bad) (fun _=> .bad) (fun _ _=> .bad) (fun _ _=> .bad) (f fc r h y.rc)) _
           have h2:=hk.2 fc call hle r h y.rc o rfl
           cases hf:f fc r h y.rc with
           | val v h'=>
             rw[hf] at h2
             have h2:bF E call (cf F n r) h y.rc o= .val v h':=h2
             simp only[h2,hs]
             exact ((ih _ _ _ _).bound h).skip (fun _=>rfl) rfl
           | _=>trivial
         | _=>trivial
     | false=>
       rw[bQ,Ai hn,if_neg (by simp)]
       cases hw:bp ops (cf F n r) o with
       | false=>
         rw[if_neg (by simp)]
         show ve E F n ops pl ((ep E F n ops pl rest k).run fc (s AV.undef r) h y) _
         simp only[hs]
         exact (ih _ _ _ _).skip (fun _=>rfl) rfl
       | true=>
         rw[if_pos rfl]
         show ve E F n ops pl ((Dk k (eW pl.aR pl.an i+1 - k) kd s (ep E F n ops pl rest k)).run fc r h y) _
         cases kd with
         | zb g=>
           simp only[hk r,hs]
           exact (ih _ _ _ _).skip (fun _=>rfl) rfl
         | db f=>
           show ve E F n ops pl (ob .bad (fun v=>(ep E F n ops pl rest k).run fc (s v r) h y) (f r)) _
           cases hf:f r with
           | none=>trivial
           | some v=>
             simp only[hk r v hf,hs]
             exact (ih _ _ _ _).skip (fun _=>rfl) rfl
         | red f=>
           show ve E F n ops pl (ob .bad (fun v=>vW ⟨k,_,none,fun h'=>ob false (fun v'=>sY 20 v' v) (f r h')⟩ ((ep E F n ops pl rest k).run fc (s v r) h y)) (f r h)) _
           cases hf:f r h with
           | none=>trivial
           | some v=>
             rcases hk r h v hf with q0 | ⟨q0,q1⟩
             · simp only[q0,hs]
               exact (ih _ _ _ _).Lb rfl rfl rfl fun h' _=>rfl
             simp only[q0,q1,hs]
             refine (ih _ _ _ _).Lb rfl rfl rfl fun h' e=>?_
             have e:ob false (fun v'=>sY 20 v' v) (f r h')=true:=e
             cases N7:f r h' with
             | none=>rw[N7] at e;cases e
             | some v'=>
               rw[N7] at e
               rcases hk r h' v' N7 with q2 | ⟨_,q3⟩
               · rw[q0] at q2;cases q2
               simp only[ey,cX,q3]
               exact Aj 20 v' v e
         | lK f=>
           obtain ⟨h3,h4,h5⟩:=hk
           show ve E F n ops pl (ob .bad (fun p=>ob .bad (fun h'=>vW ⟨k,_,some h.nx,fun Dl=>ob false (fun o=>aF.same o p.1) (Dl.get h.nx)⟩ ((ep E F n ops pl rest k).run fc (s (p.2 h.nx) r) h' y)) (h.new p.1)) (f r)) _
           cases hf:f r with
           | none=>trivial
           | some p=>
             obtain ⟨obj,mk⟩:=p
             show ve E F n ops pl (ob .bad (fun h'=>vW ⟨k,_,some h.nx,fun Dl=>ob false (fun o=>aF.same o obj) (Dl.get h.nx)⟩ ((ep E F n ops pl rest k).run fc (s (mk h.nx) r) h' y)) (h.new obj)) _
             cases hh:h.new obj with
             | none=>trivial
             | some h'=>
               simp only[h3,h4,h5 r _ hf,hh,hs]
               refine (ih _ _ _ _).Lb rfl rfl rfl fun Dl e=>?_
               have e:ob false (fun o=>aF.same o obj) (Dl.get h.nx)=true:=e
               cases N7:Dl.get h.nx with
               | none=>rw[N7] at e;cases e
               | some o'=>
                 rw[N7] at e
                 simp only[ey,N7]
                 exact e
         | _=>trivial
theorem Hy {fc call:aI} (hle:e_ fc call) {ts:List AV} {h h':ah} {rc:RC} {dst:Option Tmp} {c:Call} {ty:TypeId} {pos:String} {after:Array Edge} {guard:Option (Nat×Bool)} {v:AV} (e:bF E fc ts h rc ⟨dst,.call c,ty,pos,after,guard⟩= .panic v h'):
 bF E call ts h rc ⟨dst,.call c,ty,pos,after,guard⟩= .panic v h':=by
 obtain ⟨dJ,args,aT⟩:=c
 cases dJ with
 | builtin b=>
   cases b<;>simp only[bF] at e<;>(try (simp at e;done))<;>(split at e<;>(try (simp at e;done))<;>(try (split at e<;>simp at e)))
 | value f=>
   simp only[bF] at e ⊢
   split at e
   · split at e
     · split at e<;>simp at e
     · split at e
       · simp at e
       · rename_i hc
         simp at e;obtain ⟨rfl,rfl⟩:=e
         simp only[(hle _ _ _).2 _ _ hc]
       · simp at e
   · simp at e
 | invoke x name=>
   simp only[bF] at e ⊢
   split at e
   · split at e
     · split at e
       · simp at e
       · rename_i hc
         simp at e;obtain ⟨rfl,rfl⟩:=e
         simp only[(hle _ _ _).2 _ _ hc]
       · simp at e
     · simp at e
   · simp at e
theorem jA.snoc {ops:Array Oper} {pl:gA} {c:List EF} {t:List Step} (h:jA E ops pl c t) {x:Step} (hs:∀h,ey E ops x h=true) (hm:madeOf x.kind=none):jA E ops pl c (t++[x]):=by
 induction h with
 | nil=>exact .skip hs hm .nil
 | skip a b _ ih=>exact .skip a b ih
 | Lb a b d e _ ih=>exact .Lb a b d e ih
theorem Lc (hn:n≤F.N) {fc call:aI} (hle:e_ fc call) (ops:Array Oper) (pl:gA) (r:F.T) (h:ah) (y:Y):
 lA E F n (KP E F n ops pl fc r h y) (match bz E call ops pl.order 0 ⟨cf F n r,h,y.ds,y.rc⟩ with
  | .ok tr hs s'=>if kg E ops pl tr hs then .ok .normal s' else .fail "still" (ops[0]?)
  | .fail why o=>match sf E call ops ⟨cf F n r,h,y.ds,y.rc⟩ pl with
    | some (v,s2)=> .ok (.panic v) s2
    | none=> .fail why o):=by
 unfold KP
 split
 · trivial
 rename_i i front Kt
 split
 · rename_i tr hs r1 h1 y1 dst c ty pos after guard hd ho
   split
   · rename_i v h' Bp Gv
     split
     · rename_i hl
       have hk:=tc (E:=E) hn hle ops pl front.reverse 0 r h y
       rw[hd] at hk
       obtain ⟨Bt,e1,e2⟩:=hk
       have Gr:pl.order=front.reverse++[i]:=by
        have:=congrArg List.reverse Kt
        simpa using this
       have QL:=Hy hle Gv
       have Em:=Bp
       simp only[Bool.and_eq_true] at Em
       obtain ⟨why,q,e3⟩:=p6 ho Em.1.1 front.reverse 0 _ e1 Em.1.2 QL
       rw[Gr,e3]
       have Gw:sf E call ops ⟨cf F n r,h,y.ds,y.rc⟩ pl=some (v,⟨cf F n r1,h',y1.ds,y1.rc⟩):=by
        unfold sf
        rw[Kt]
        simp only[e1,ho,Bp,if_true,QL]
        rw[if_pos (tb (e2.snoc (fun _=>rfl) rfl) hl)]
       simp only[Gw]
       exact ⟨by simp,rfl⟩
     · trivial
   · trivial
 · trivial
theorem Hz (hn:n≤F.N) {fc call:aI} (hle:e_ fc call) (ops:Array Oper) (r:F.T) (h:ah) (y:Y):
 lA E F n ((Dn E F n ops).run fc r h y) (oi E call ops ⟨cf F n r,h,y.ds,y.rc⟩):=by
 unfold Dn oi
 rw[GW]
 cases lJ E ops with
 | none=>trivial
 | some pl=>
   show lA E F n (DO.rec (motive:=fun _=>FO F.T) (fun tr hs r' h' y'=>bc (kE tr hs) (.zV r' h' y') .bad) (KP E F n ops pl fc r h y) ((ep E F n ops pl pl.order 0).run fc r h y)) _
   have:=tc (E:=E) hn hle ops pl pl.order 0 r h y
   cases hd:(ep E F n ops pl pl.order 0).run fc r h y with
   | bad=>exact Lc hn hle ops pl r h y
   | ok tr hs r' h' y'=>
     rw[hd] at this
     obtain ⟨Bt,h1,h2⟩:=this
     show lA E F n (bc (kE tr hs) (.zV r' h' y') .bad) _
     cases hl:kE tr hs with
     | false=>trivial
     | true=>
       simp only[h1]
       rw[if_pos (tb h2 hl)]
       rfl
end Go.Ab.Fa
end
section
namespace Go.Ab.Fa
variable {E:Env} {F:RF} {n:Nat}
theorem Ak {fc call:aI} (hle:e_ fc call) {f:Operand} {ps:Array Tmp} {as_ bd:Code} {s:St} {e:fi} {s':St} (h:hX E fc f ps as_ bd s= .ok e s'):hX E call f ps as_ bd s= .ok e s':=by
 unfold hX at h ⊢
 split at h
 case h_2=>cases h
 rename_i g first captured hv
 split at h
 case h_2=>cases h
 rename_i dn h1 Ni ho
 split at h
 case h_2=>cases h
 rename_i h2 hn
 cases hc:fc (.fn g) (first++[.lF h1.nx]++captured) h2 with
 | ret v h3=>rw[hc] at h;rw[(hle _ _ _).1 _ _ hc];exact h
 | panic v h3=>rw[hc] at h;rw[(hle _ _ _).2 _ _ hc];exact h
 | fail why q=>rw[hc] at h;cases h
theorem EP {call:aI} {f:Operand} {ps:Array Tmp} {as_ bd:Code} {s:St} {e:fi} {s':St} (h:hX E call f ps as_ bd s= .ok e s'):s'.ts=s.ts:=by
 unfold hX at h
 split at h
 case h_2=>cases h
 split at h
 case h_2=>cases h
 split at h
 case h_2=>cases h
 split at h
 · split at h
   · cases h
   · split at h
     · simp only[Out.ok.injEq] at h;rw[←h.2]
     · cases h
   · cases h
 · simp only[Out.ok.injEq] at h;rw[←h.2]
 · cases h
theorem HA {o:FO F.T} {out:Out} (h:lA E F n o out) {k:F.T→ah→Y→FO F.T} {g:St→Out} (hk:∀r h y,lA E F n (k r h y) (g ⟨cf F n r,h,y.ds,y.rc⟩)):
 lA E F n (fo k .jmp .bad o) (match (generalizing:=false) out with | .ok .normal s'=>g s' | r=>r):=by
 cases o with
 | zV r h' y=>rw[show out=_ from h];exact hk r h' y
 | jmp e r h' y=>
   obtain ⟨h1,h2⟩:=h
   rw[h2]
   cases e with
   | normal=>exact absurd rfl h1
   | _=>exact ⟨by simp,rfl⟩
 | bad=>trivial
theorem fU (hn:n≤F.N) {fc call:aI} (hle:e_ fc call):∀(c:Code) (m:Nat) (r:F.T) (h:ah) (y:Y),
 lA E F n ((gW E F n c).run m fc r h y) (exec E call m c ⟨cf F n r,h,y.ds,y.rc⟩)
 | .skip,m,r,h,y=>by cases m with
   | zero=>trivial
   | succ m=>exact rfl
 | .label _,m,r,h,y=>by cases m with
   | zero=>trivial
   | succ m=>exact rfl
 | .ret,m,r,h,y=>by cases m with
   | zero=>trivial
   | succ m=>exact ⟨by simp,rfl⟩
 | .exit id,m,r,h,y=>by cases m with
   | zero=>trivial
   | succ m=>exact ⟨by simp,rfl⟩
 | .region _ ops draw,m,r,h,y=>by
   cases m with
   | zero=>cases draw<;>trivial
   | succ m=>cases draw with
     | true=>exact Hz hn hle ops r h y
     | false=>exact ta hn hle ops ops.toList r h y
 | .seq a b,m,r,h,y=>by cases m with
   | zero=>trivial
   | succ m=>
     have h1:=fU hn hle a m r h y
     have h2:=fU hn hle b m
     exact HA h1 (g:=fun s'=>exec E call m b s') h2
 | .cond x a b,m,r,h,y=>by
   have ha:=fU hn hle a
   have hb:=fU hn hle b
   show lA E F n (C.run (wO E F n x (fun g=>⟨fun m call r h y=>nS .bad (fun i=>eB (fun t=>bc t ((gW E F n a).run i call r h y) ((gW E F n b).run i call r h y)) .bad (g r)) m⟩) ⟨fun _ _ _ _ _=> .bad⟩) m fc r h y) _
   rcases aY E F n x (fun g=>(⟨fun m call r h y=>nS .bad (fun i=>eB (fun t=>bc t ((gW E F n a).run i call r h y) ((gW E F n b).run i call r h y)) .bad (g r)) m⟩:C F.T)) ⟨fun _ _ _ _ _=> .bad⟩ with hw | ⟨g,hw,hg⟩<;>rw[hw]
   · trivial
   cases m with
   | zero=>trivial
   | succ m=>
     show lA E F n (eB (fun t=>bc t ((gW E F n a).run m fc r h y) ((gW E F n b).run m fc r h y)) .bad (g r)) _
     rw[exec]
     simp only[hg]
     cases g r with
     | bool t=>cases t with
       | true=>exact ha m r h y
       | false=>exact hb m r h y
     | _=>trivial
 | .block id b,m,r,h,y=>by cases m with
   | zero=>trivial
   | succ m=>
     have hb:=fU hn hle b m r h y
     show lA E F n (fo .zV (fun e r' h' y'=>G_ (fun j=>bc (Nat.beq j id) (.zV r' h' y') (.jmp e r' h' y')) (.jmp e r' h' y') e) .bad ((gW E F n b).run m fc r h y)) _
     rw[exec]
     cases hr:(gW E F n b).run m fc r h y with
     | bad=>trivial
     | zV r' h' y'=>
       rw[hr] at hb
       have hb:exec E call m b _= .ok .normal ⟨cf F n r',h',y'.ds,y'.rc⟩:=hb
       rw[hb];exact rfl
     | jmp e r' h' y'=>
       rw[hr] at hb
       obtain ⟨h1,h2⟩:=hb
       rw[h2]
       cases e with
       | normal=>exact absurd rfl h1
       | exit j=>
         show lA E F n (bc (Nat.beq j id) (.zV r' h' y') (.jmp (.exit j) r' h' y')) (if j=id then _ else _)
         cases hj:Nat.beq j id with
         | true=>rw[if_pos (ie hj)];exact rfl
         | false=>rw[if_neg (by intro e;rw[e,Nat.beq_refl] at hj;cases hj)];exact ⟨by simp,rfl⟩
       | ret=>exact ⟨by simp,rfl⟩
       | panic v=>exact ⟨by simp,rfl⟩
 | .loop b,m,r,h,y=>by
   have hb:=fU hn hle b
   show lA E F n (G' (gW E F n b) m fc r h y) _
   induction m generalizing r h y with
   | zero=>trivial
   | succ m ih=>
     show lA E F n (fo (fun r' h' y'=>G' (gW E F n b) m fc r' h' y') .jmp .bad ((gW E F n b).run m fc r h y)) _
     exact HA (hb m r h y) (g:=fun s'=>exec E call m (.loop b) s') ih
 | .rangeFunc f ps as_ bd,m,r,h,y=>by
   show lA E F n ((KQ (xR E F n f ps as_ bd)).run m fc r h y) _
   cases m with
   | zero=>trivial
   | succ m=>
     show lA E F n ((xR E F n f ps as_ bd).run fc r h y) (hX E call f ps as_ bd ⟨cf F n r,h,y.ds,y.rc⟩)
     unfold xR
     rcases aY E F n f (fun _=>(⟨fun call r h y=>MK r (hX E call f ps as_ bd ⟨cf F n r,h,y.ds,y.rc⟩)⟩:I F.T)) ⟨fun _ _ _ _=> .bad⟩ with hw | ⟨g,hw,_⟩<;>rw[hw]
     · trivial
     simp only
     cases hr:hX E fc f ps as_ bd ⟨cf F n r,h,y.ds,y.rc⟩ with
     | fail _ _=>trivial
     | ok e s=>
       rw[Ak hle hr]
       have ht:=EP hr
       obtain ⟨ts,hh,ds,rc⟩:=s
       simp only at ht
       subst ht
       cases e with
       | normal=>exact rfl
       | _=>exact ⟨by simp,rfl⟩
 | .scope b,m,r,h,y=>by cases m with
   | zero=>trivial
   | succ m=>exact fU hn hle b m r h y
 | .goto _,m,r,h,y=>trivial
 | .refuse _,m,r,h,y=>trivial
theorem oR:∀(l:List ResultVar) (r:F.T) (h:ah) (vs:List AV),(qh E F n l).f r h=some vs→fB E h (cf F n r) l=some vs
 | [],r,h,vs,e=>e
 | .tmp t::rest,r,h,vs,e=>by
   rw[qh] at e
   obtain ⟨g,h1,h2⟩:=xV F n t (fun g=>wW (qh E F n rest) fun k=>(⟨fun r h=>ob none (fun vs=>some (g r::vs)) (k r h)⟩:W (F.T→ah→Option (List AV))))
   rw[h1] at e
   obtain ⟨jw,h3,h4⟩:=cZ (show ob none (fun vs=>some (g r::vs)) ((qh E F n rest).f r h)=some vs from e)
   rw[fB]
   simp only[h2,oR rest r h jw h3]
   exact h4
 | .cell a t::rest,r,h,vs,e=>by
   rw[qh] at e
   obtain ⟨g,h1,h2⟩:=xV F n a (fun g=>wW (qh E F n rest) fun k=>(⟨fun r h=>ob none (fun v=>ob none (fun vs=>some (v::vs)) (k r h)) (aM E h t (g r))⟩:W (F.T→ah→Option (List AV))))
   rw[h1] at e
   obtain ⟨v,h3,h4⟩:=cZ (show ob none (fun v=>ob none (fun vs=>some (v::vs)) ((qh E F n rest).f r h)) (aM E h t (g r))=some vs from e)
   obtain ⟨jw,h5,h6⟩:=cZ h4
   rw[fB]
   simp only[h2,h3,oR rest r h jw h5]
   exact h6
def Um (E:Env) (rs:List ResultVar) (b:BO) (out:Out):Prop:=match b with
 | .fin res h y=>∃e ts,(e= .normal∨e= .ret)∧out= .ok e ⟨ts,h,y.ds,y.rc⟩∧∀h' vs,res h'=some vs→fB E h' ts rs=some vs
 | .QG v res h y=>∃ts,out= .ok (.panic v) ⟨ts,h,y.ds,y.rc⟩∧∀h' vs,res h'=some vs→fB E h' ts rs=some vs
 | .bad=>True
theorem Al {fc call:aI} (hle:e_ fc call) (F:RF) (fn:Func) (hn:fn.ntmps≤F.N) (b:Code) (fuel:Nat) (args:List AV) (h:ah) (rc:RC):
 Um E fn.results.toList ((Ha E F fn.ntmps fn b).run fuel fc args h rc) (ij E call fuel fn b args h rc):=by
 show Um E _ (bc (Nat.ble (dX args) fn.ntmps)
  (fo (fun r h' y=> .fin ((qh E F fn.ntmps fn.results.toList).f r) h' y) (fun e r h' y=>fi.rec (motive:=fun _=>BO) .bad (fun _=> .bad) (.fin ((qh E F fn.ntmps fn.results.toList).f r) h' y) (fun v=> .QG v ((qh E F fn.ntmps fn.results.toList).f r) h' y) e) .bad
   ((gW E F fn.ntmps b).run fuel fc (FR F args F.z 0) h ⟨[],rc⟩)) .bad) _
 cases hl:Nat.ble (dX args) fn.ntmps with
 | false=>trivial
 | true=>
   have hl:=cy hl
   rw[cC] at hl
   have:=fU (E:=E) hn hle b fuel (FR F args F.z 0) h ⟨[],rc⟩
   rw[Db F fn.ntmps hn args hl] at this
   rw[dR]
   unfold ij
   cases hr:(gW E F fn.ntmps b).run fuel fc (FR F args F.z 0) h ⟨[],rc⟩ with
   | bad=>trivial
   | zV r h' y=>
     rw[hr] at this
     exact ⟨.normal,_,.inl rfl,this,fun Dl vs e=>oR _ r Dl vs e⟩
   | jmp e r h' y=>
     rw[hr] at this
     obtain ⟨h1,h2⟩:=this
     cases e with
     | normal=>exact absurd rfl h1
     | exit _=>trivial
     | ret=>exact ⟨.ret,_,.inr rfl,h2,fun Dl vs e=>oR _ r Dl vs e⟩
     | panic v=>exact ⟨_,h2,fun Dl vs e=>oR _ r Dl vs e⟩
theorem Am {fc call:aI} (hle:e_ fc call) (f:FuncId) (fuel:Nat) (args:List AV) (h:ah) (rc:RC):
 (qX E f).run fuel fc args h rc= .bad∨∃fn b,E.P.funcs[f]? =some fn∧fn.body=some b∧Um E fn.results.toList ((qX E f).run fuel fc args h rc) (ij E call fuel fn b args h rc):=by
 unfold qX
 rw[KI]
 cases hf:E.P.funcs[f]? with
 | none=>exact .inl rfl
 | some fn=>
   simp only
   cases hb:fn.body with
   | none=>exact .inl rfl
   | some b=>
     refine .inr ⟨fn,b,rfl,hb,?_⟩
     simp only
     cases h1:Nat.ble fn.ntmps 64 with
     | true=>exact Al hle SZ fn (cy h1) b fuel args h rc
     | false=>cases h2:Nat.ble fn.ntmps 512 with
       | true=>exact Al hle S0 fn (cy h2) b fuel args h rc
       | false=>trivial
theorem me {fc call:aI} (hle:e_ fc call) {fuel:Nat} {c:Code} {s:St} {e:fi} {s':St} (h:Dq E fc fuel c s= .ok e s'):exec E call fuel c s= .ok e s':=by
 have key:∀F:RF,s.ts.length≤F.N→Dp E F fc fuel c s= .ok e s'→exec E call fuel c s= .ok e s':=by
  intro F hn hx
  have:=fU (E:=E) hn hle c fuel (FR F s.ts F.z 0) s.h ⟨s.ds,s.rc⟩
  rw[Db F s.ts.length hn s.ts (Nat.le_refl _),Nat.sub_self,List.replicate_zero,List.append_nil] at this
  unfold Dp at hx
  cases hr:(gW E F s.ts.length c).run fuel fc (FR F s.ts F.z 0) s.h ⟨s.ds,s.rc⟩ with
  | bad=>rw[hr] at hx;cases hx
  | zV r h' y=>rw[hr] at hx this;rw[show exec E call fuel c s=_ from this];exact hx
  | jmp e' r h' y=>rw[hr] at hx this;rw[show exec E call fuel c s=_ from this.2];exact hx
 unfold Dq at h
 cases h1:Nat.ble s.ts.length 64 with
 | true=>rw[h1] at h;exact key SZ (cy h1) h
 | false=>cases h2:Nat.ble s.ts.length 512 with
   | true=>rw[h1,h2] at h;exact key S0 (cy h2) h
   | false=>rw[h1,h2] at h;cases h
noncomputable def x9 (E:Env) (call:aI) (fuel:Nat) (g:FuncId) (as_:List AV) (h:ah) (rc:RC):Option (ah×RC):=match E.P.funcs[g]? with
 | none=>none
 | some fg=>match fg.body with
   | none=>none
   | some bg=>match ij E call fuel fg bg as_ h rc with
     | .ok .normal s'=>if s'.ds.isEmpty&&(fB E s'.h s'.ts fg.results.toList).isSome then some (s'.h,s'.rc) else none
     | .ok .ret s'=>if s'.ds.isEmpty&&(fB E s'.h s'.ts fg.results.toList).isSome then some (s'.h,s'.rc) else none
     | _=>none
theorem HB {fc call:aI} (hle:e_ fc call) {fuel:Nat} {g:FuncId} {as_:List AV} {h:ah} {rc:RC} {p:ah×RC} (e:dv E fc fuel g as_ h rc=some p):x9 E call fuel g as_ h rc=some p:=by
 unfold dv at e
 rcases Am (E:=E) hle g fuel as_ h rc with h1 | ⟨fn,b,h1,h2,h3⟩
 · rw[h1] at e;cases e
 · unfold x9
   rw[h1];simp only;rw[h2];simp only
   cases hr:(qX E g).run fuel fc as_ h rc with
   | bad=>rw[hr] at e;cases e
   | QG v res h' y=>rw[hr] at e;cases e
   | fin res h' y=>
     rw[hr] at e h3
     obtain ⟨x,ts,h4,h5,h6⟩:=h3
     obtain ⟨h7,e1⟩:=cD (show bc y.ds.isEmpty (ob none (fun _=>some (h',y.rc)) (res h')) none=some p from e)
     obtain ⟨vs,h8,e2⟩:=cZ e1
     rw[h5]
     rcases h4 with rfl | rfl
     · simp only[h7,h6 h' vs h8,Option.isSome_some,Bool.and_self,if_true];exact e2
     · simp only[h7,h6 h' vs h8,Option.isSome_some,Bool.and_self,if_true];exact e2
theorem fV {f g:FuncId→List AV→ah→RC→Option (ah×RC)} (PC:∀k as_ h rc p,f k as_ h rc=some p→g k as_ h rc=some p):∀(ds:List iI) (p:Option AV) (h:ah) {q:Option AV×ah},bA f ds p h=some q→bA g ds p h=some q
 | [],p,h,q,e=>by cases p<;>exact e
 | .Pn r::ds,p,h,q,e=>by
   rw[bA] at e ⊢
   split at e
   · exact fV PC ds p _ e
   · cases e
 | .call k as_::ds,none,h,q,e=>by
   rw[bA] at e ⊢
   cases hf:f k as_ h .no with
   | none=>rw[hf] at e;cases e
   | some p=>rw[hf] at e;rw[PC _ _ _ _ _ hf];obtain ⟨h',Kw⟩:=p;exact fV PC ds none h' e
 | .call k as_::ds,some v,h,q,e=>by
   rw[bA] at e ⊢
   cases hf:f k as_ h (.dV v) with
   | none=>rw[hf] at e;cases e
   | some p=>
     rw[hf] at e;rw[PC _ _ _ _ _ hf];obtain ⟨h',Kw⟩:=p
     cases Kw with
     | dV w=>exact fV PC ds _ h' e
     | done=>exact fV PC ds _ h' e
     | _=>cases e
theorem ES {fc call:aI} (hle:e_ fc call) (fuel:Nat) (l:Nat) (args:List AV) (h:ah):(∀v h',sZ E fc fuel l args h= .ret v h'→nC E call fuel l args h= .ret v h')∧∀v h',sZ E fc fuel l args h= .panic v h'→nC E call fuel l args h= .panic v h':=by
 have key:∀out:eg,(∀why o,out≠ .fail why o)→sZ E fc fuel l args h=out→nC E call fuel l args h=out:=by
  intro out jQ e
  unfold sZ at e
  unfold nC
  split at e
  case h_2=>exact absurd e.symm (jQ _ _)
  rename_i st pd ts ps as_ bd dn hg
  rw[hg]
  simp only
  by_cases ha:args.length=ps.length
  · rw[if_pos ha] at e ⊢
    split at e
    · rename_i s1 h1
      rw[me hle h1]
      simp only
      split at e
      · rename_i pd Nj Mn J7 Nk Nl S8
        rw[S8]
        simp only
        split at e
        · rename_i s2 h2;rw[me hle h2];exact e
        · rename_i s2 h2;rw[me hle h2];exact e
        · rename_i id s2 h2;rw[me hle h2];exact e
        · rename_i v s2 h2;rw[me hle h2];exact e
        · exact absurd e.symm (jQ _ _)
      · exact absurd e.symm (jQ _ _)
    · exact absurd e.symm (jQ _ _)
    · exact absurd e.symm (jQ _ _)
  · rw[if_neg ha] at e;exact absurd e.symm (jQ _ _)
 exact ⟨fun v h' e=>key _ (by simp) e,fun v h' e=>key _ (by simp) e⟩
noncomputable def HC (E:Env) (call:aI) (fuel:Nat) (fn:Func) (p:Option AV) (s:St):eg:=match bA (x9 E call fuel) s.ds p s.h with
 | none=> .fail "unwind" none
 | some (some v,h')=> .panic v h'
 | some (none,h')=>match fB E h' s.ts fn.results.toList with
   | some vs=> .ret (dp vs) h'
   | none=> .fail "results" none
theorem Cc (d fuel:Nat) {f:FuncId} {fn:Func} {b:Code} (hf:E.P.funcs[f]? =some fn) (hb:fn.body=some b) (args:List AV) (h:ah):
 cW E (d+1) fuel (.fn f) args h=(match ij E (cW E d fuel) fuel fn b args h .no with
  | .ok .normal s=>HC E (cW E d fuel) fuel fn none s
  | .ok .ret s=>HC E (cW E d fuel) fuel fn none s
  | .ok (.panic v) s=>HC E (cW E d fuel) fuel fn (some v) s
  | .ok (.exit _) _=> .fail "exit" none
  | .fail why o=> .fail (why++ " in " ++fn.name) o):=by
 rw[cW]
 simp only[hf,hb]
 rfl
theorem Dz {fc call:aI} (hle:e_ fc call) {fuel:Nat} {fn:Func} {p:Option AV} {res:ah→Option (List AV)} {ts:List AV} {h:ah} {y:Y} (vm:∀h' vs,res h'=some vs→fB E h' ts fn.results.toList=some vs) {out:eg} (ho:∀why o,out≠ .fail why o)
 (e:z6 (p.elim (ob (.fail "results" none) (fun vs=>eg.ret (dp vs) h) (res h)) (fun v=> .panic v h)) (zZ E fc fuel p res h y.ds) y.ds=out):HC E call fuel fn p ⟨ts,h,y.ds,y.rc⟩=out:=by
 unfold HC
 cases hd:y.ds with
 | nil=>
   rw[hd] at e
   cases p with
   | some v=>exact e
   | none=>
     have e:ob (.fail "results" none) (fun vs=>eg.ret (dp vs) h) (res h)=out:=e
     cases hr:res h with
     | none=>rw[hr] at e;exact absurd e.symm (ho _ _)
     | some vs=>
       rw[hr] at e
       simp only[bA,vm h vs hr]
       exact e
 | cons d ds=>
   rw[hd] at e
   have e:zZ E fc fuel p res h (d::ds)=out:=e
   unfold zZ at e
   cases hu:bA (dv E fc fuel) (d::ds) p h with
   | none=>rw[hu] at e;exact absurd e.symm (ho _ _)
   | some q=>
     rw[hu] at e
     have:=fV (g:=x9 E call fuel) (fun k as_ h rc p e=>HB hle e) (d::ds) p h hu
     simp only[this]
     obtain ⟨q1,h'⟩:=q
     cases q1 with
     | some v=>exact e
     | none=>
       have e:ob (.fail "results" none) (fun vs=>eg.ret (dp vs) h') (res h')=out:=e
       cases hr:res h' with
       | none=>rw[hr] at e;exact absurd e.symm (ho _ _)
       | some vs=>rw[hr] at e;simp only[vm h' vs hr];exact e
theorem An (fuel:Nat):∀d,e_ (qY E d fuel) (cW E d fuel)
 | 0=>fun _ _ _=>⟨fun _ _ e=>(by cases e),fun _ _ e=>(by cases e)⟩
 | d+1=>by
   have ih:=An fuel d
   intro g args h
   cases g with
   | qK l=>exact ES ih fuel l args h
   | fn f=>
     have key:∀out:eg,(∀why o,out≠ .fail why o)→qY E (d+1) fuel (.fn f) args h=out→cW E (d+1) fuel (.fn f) args h=out:=by
      intro out ho e
      have e:bo (fun res h' y=>z6 (ob (.fail "results" none) (fun vs=>eg.ret (dp vs) h') (res h')) (zZ E (qY E d fuel) fuel none res h' y.ds) y.ds)
       (fun v res h' y=>z6 (.panic v h') (zZ E (qY E d fuel) fuel (some v) res h' y.ds) y.ds) (.fail "body" none) ((qX E f).run fuel (qY E d fuel) args h .no)=out:=e
      rcases Am (E:=E) ih f fuel args h .no with h1 | ⟨fn,b,h1,h2,h3⟩
      · rw[h1] at e;exact absurd e.symm (ho _ _)
      · rw[Cc d fuel h1 h2]
        cases hr:(qX E f).run fuel (qY E d fuel) args h .no with
        | bad=>rw[hr] at e;exact absurd e.symm (ho _ _)
        | fin res h' y=>
          rw[hr] at e h3
          obtain ⟨x,ts,h4,h5,h6⟩:=h3
          have:=Dz (E:=E) ih (fn:=fn) (p:=none) h6 ho e
          rw[h5]
          rcases h4 with rfl | rfl<;>exact this
        | QG v res h' y=>
          rw[hr] at e h3
          obtain ⟨ts,h5,h6⟩:=h3
          have:=Dz (E:=E) ih (fn:=fn) (p:=some v) h6 ho e
          rw[h5];exact this
     exact ⟨fun v h' e=>key _ (by simp) e,fun v h' e=>key _ (by simp) e⟩
theorem te {d fuel:Nat} {f:FuncId} {args:List AV} {h h':ah} {v:AV} (e:qY E d fuel (.fn f) args h= .ret v h'):cW E d fuel (.fn f) args h= .ret v h':=
 (An fuel d _ _ _).1 v h' e
end Go.Ab.Fa
end
section
namespace Go.Ab
structure v7 (P:Program) (f:FuncId) (e:Array Value→Sem Value):Prop where
 at':∃fn,P.funcs[f]? =some fn∧(fn.name== "runtime.NumGoroutine")=false∧fn.body.isNone=true∧Extern.findNext fn=none∧Extern.find fn=some e
theorem v7.run {P:Program} {f:FuncId} {e:Array Value→Sem Value} (h:v7 P f e) (args:Array Value) (w:World):(callFunc f args).run P w=((e args).run P w).andThen fun v w'=> .ok (.value v) w':=by
 obtain ⟨fn,h1,h2,h3,h4,h5⟩:=h.at'
 exact run_callFunc_extern h1 h2 h3 h4 h5 args w
def MN (P:Program) (f:FuncId) (e:List AV→Option AV):Prop:=∀vs r,e vs=some r→∀φ (jw:List Value),LR φ vs jw→∃r',VR φ r r'∧∀w,(callFunc f jw.toArray).run P w= .ok (.value r') w
section
open Fa
noncomputable def l3 {R:Type} (f:AV→AV→AV→R) (d:R) (l:List AV):R:=
 List.rec (motive:=fun _=>R) d (fun a tl _=>List.rec (motive:=fun _=>R) d (fun b tl _=>List.rec (motive:=fun _=>R) d (fun c tl _=>List.rec (motive:=fun _=>R) (f a b c) (fun _ _ _=>d) tl) tl) tl) l
noncomputable def l2 {R:Type} (f:AV→AV→R) (d:R) (l:List AV):R:=
 List.rec (motive:=fun _=>R) d (fun a tl _=>List.rec (motive:=fun _=>R) d (fun b tl _=>List.rec (motive:=fun _=>R) (f a b) (fun _ _ _=>d) tl) tl) l
theorem HD {β:Type} {f:AV→AV→Option β} {l:List AV} {v:β} (h:l2 f none l=some v):∃a b,l=[a,b]∧f a b=some v:=by
 match l,h with
 | [a,b],h=>exact ⟨a,b,rfl,h⟩
noncomputable def n3 (f:Nat→Nat→Nat→Option AV):List AV→Option AV:=
 l3 (fun a b c=>ic (fun _ x=>ic (fun _ y=>ic (fun _ z=>eD (fun x=>eD (fun y=>eD (fun z=>f x y z) none z) none y) none x) none c) none b) none a) none
noncomputable def Ld (c:Nat) (l:List UInt8):Nat→Int:=List.rec (motive:=fun _=>Nat→Int) (fun _=>Int.negSucc 0) (fun b _ ih i=>bc (Nat.beq b.toBitVec.toFin.val c) (Int.ofNat i) (ih (Nat.add i 1))) l
noncomputable def tf:List AV→Option AV:=l2 (fun a b=>jJ (fun s=>ic (fun k c=>KD none none none none (eD (fun c=>bc (Nat.ble 256 c) none (some (.int .i64 (Ld c s 0)))) none c) none none none k) none b) none a) none
noncomputable def HE (c:Nat) (l:List UInt8):Nat:=List.rec (motive:=fun _=>Nat) 0 (fun b _ ih=>bc (Nat.beq b.toBitVec.toFin.val c) (Nat.add ih 1) ih) l
noncomputable def tg:List AV→Option AV:=l2 (fun a b=>jJ (fun s=>ic (fun k c=>KD none none none none (eD (fun c=>bc (Nat.ble 256 c) none (some (.int .i64 (Int.ofNat (HE c s))))) none c) none none none k) none b) none a) none
end
open Fa
theorem WH (b:UInt8) {c:Nat} (hc:c<256):Nat.beq b.toBitVec.toFin.val c=(b==c.toUInt8):=by
 by_cases h:b=c.toUInt8
 · subst h
   rw[show (c.toUInt8).toBitVec.toFin.val=c from by
    show (UInt8.ofNat c).toNat=c
    simp [Nat.mod_eq_of_lt hc]]
   rw[Nat.beq_refl];simp
 · rw[show (b==c.toUInt8)=false by simp [h]]
   cases hb:Nat.beq b.toBitVec.toFin.val c
   · rfl
   · exfalso;apply h
     have:=Nat.eq_of_beq_eq_true hb
     have e:b.toNat=c:=this
     apply UInt8.toNat_inj.mp
     rw[e];show c=(UInt8.ofNat c).toNat;simp [Nat.mod_eq_of_lt hc]
theorem DA {c:Nat} (hc:c<256):∀(l:List UInt8) (i:Nat),Ld c l i=if Lib.indexByte l c.toUInt8= -1 then -1 else (i:Int)+Lib.indexByte l c.toUInt8
 | [],i=>rfl
 | b::l,i=>by
   show bc (Nat.beq b.toBitVec.toFin.val c) (Int.ofNat i) (Ld c l (i+1))=_
   rw[WH b hc,DA hc l (i+1),Lib.indexByte]
   have Qj:=Lib.indexByte_ge l c.toUInt8
   generalize Lib.indexByte l c.toUInt8=q at Qj
   cases b==c.toUInt8 with
   | true=>
     rw[dR,if_pos rfl]
     rw[if_neg (by decide)];simp
   | false=>
     rw[bQ]
     by_cases hx:q= -1
     · subst hx;rfl
     · have:(q== -1)=false:=by simpa using hx
       rw[this]
       simp only[Bool.false_eq_true,if_false]
       rw[if_neg hx,if_neg (by omega)];omega
theorem x_ {P:Program} {f:FuncId} (h:v7 P f Extern.BytealgIndexByte.indexByte):MN P f tf:=by
 intro vs r e φ jw hl
 obtain ⟨a,b,rfl,e1⟩:=HD e
 obtain ⟨s,rfl,e2⟩:=fR e1
 obtain ⟨k,n,rfl,e3⟩:=dz e2
 cases k<;>try (exact absurd e3 (by intro x;cases x))
 obtain ⟨c,rfl,e4⟩:=fS (show eD (fun c=>bc (Nat.ble 256 c) none (some (.int .i64 (Ld c s 0)))) none n=some r from e3)
 obtain ⟨e5,e6⟩:=iv e4
 have e5:=ei e5
 obtain ⟨x,t,rfl,h1,hl⟩:=hl.bw
 obtain ⟨y,t,rfl,h2,hl⟩:=hl.bw
 rw[hl.dg]
 obtain ⟨sb,rfl,Ny⟩:∃sb:ByteArray,x= .string sb∧sb.data.toList=s:=by cases h1;exact ⟨_,rfl,rfl⟩
 subst Ny
 cases h2
 refine ⟨.int .i64 (firstIdx sb ((c:Int)).toNat.toUInt8),?_,fun w=>?_⟩
 · rw[←Option.some.inj e6,DA e5,Lib.firstIdx_eq]
   show VR φ (.int .i64 (if Lib.indexByte sb.data.toList c.toUInt8= -1 then -1 else ((0:Nat):Int)+Lib.indexByte sb.data.toList c.toUInt8)) (.int .i64 (Lib.indexByte sb.data.toList c.toUInt8))
   by_cases hx:Lib.indexByte sb.data.toList c.toUInt8= -1
   · rw[if_pos hx,hx];exact .int _ _
   · rw[if_neg hx];simp only[Int.natCast_zero,Int.zero_add];exact .int _ _
 · rw[h.run]
   show ((Extern.BytealgIndexByte.indexByte #[.string sb,.int .u8 (c:Int)]).run P w).andThen _=_
   rw[run_indexByte_string];rfl
theorem DB {c:Nat} (hc:c<256):∀(l:List UInt8),HE c l=Lib.countByte l c.toUInt8
 | []=>rfl
 | b::l=>by
   show bc (Nat.beq b.toBitVec.toFin.val c) (HE c l+1) (HE c l)=_
   rw[WH b hc,DB hc l]
   unfold Lib.countByte
   rw[List.count_cons]
   cases b==c.toUInt8<;>rfl
theorem ya {P:Program} {f:FuncId} (h:v7 P f Extern.BytealgCount.count):MN P f tg:=by
 intro vs r e φ jw hl
 obtain ⟨a,b,rfl,e1⟩:=HD e
 obtain ⟨s,rfl,e2⟩:=fR e1
 obtain ⟨k,n,rfl,e3⟩:=dz e2
 cases k<;>try (exact absurd e3 (by intro x;cases x))
 obtain ⟨c,rfl,e4⟩:=fS (show eD (fun c=>bc (Nat.ble 256 c) none (some (.int .i64 (Int.ofNat (HE c s))))) none n=some r from e3)
 obtain ⟨e5,e6⟩:=iv e4
 have e5:=ei e5
 obtain ⟨x,t,rfl,h1,hl⟩:=hl.bw
 obtain ⟨y,t,rfl,h2,hl⟩:=hl.bw
 rw[hl.dg]
 obtain ⟨sb,rfl,Ny⟩:∃sb:ByteArray,x= .string sb∧sb.data.toList=s:=by cases h1;exact ⟨_,rfl,rfl⟩
 subst Ny
 cases h2
 refine ⟨.int .i64 (Lib.countByte sb.data.toList ((c:Int)).toNat.toUInt8),?_,fun w=>?_⟩
 · rw[←Option.some.inj e6,DB e5];exact .int _ _
 · rw[h.run]
   show ((Extern.BytealgCount.count #[.string sb,.int .u8 (c:Int)]).run P w).andThen _=_
   rw[Lib.run_countString];rfl
end Go.Ab
end
section
namespace Go.Ab
open Go.Maps Go.WideElems Go.RowKit Go.Proofs
section
open Fa
noncomputable def l1 {R:Type} (f:AV→R) (d:R) (l:List AV):R:=List.rec (motive:=fun _=>R) d (fun a tl _=>List.rec (motive:=fun _=>R) (f a) (fun _ _ _=>d) tl) l
end
open Fa
theorem OK.later {E:Env} {φ:Ph} {h:ah} {w w':World} (ok:OK E φ h w) (b:Below w.heap.size w w'):OK E φ h w'∧Fr φ h w φ h w':=by
 have rD:∀j p m,h.get j=some p→φ j=some m→m.cH<w.heap.size:=fun j p m hj hm=>by
  have u_:=ok.live j p m hj hm
  rcases Nat.lt_or_ge m.cH w.heap.size with a | a
  · exact a
  · exfalso
    rw[Array.getElem?_eq_none a] at u_
    exact u_.absurd
 refine ⟨⟨ok.qL,ok.nx,ok.lN,fun i o l h1 h2=>?_,ok.inj⟩,⟨Ph.le_refl φ,fun _ _=>rfl,Nat.le_refl _,b.os,b.tape,b.output,b.size,fun c hc _=>b.block c hc,fun i o l h1 h2 h3=> .inr ⟨i,o,l,h1,h2,h3,rfl⟩⟩⟩
 rw[b.block _ (rD i o l h1 h2)]
 exact ok.live i o l h1 h2
end Go.Ab
end
section
namespace Go.Ab
structure JX where
 g:Nat
 k:IntKind
 ns:List Nat
 t:TypeId
def JX.cells (x:JX):List AV:=x.ns.map fun n=>AV.int x.k (Int.ofNat n)
noncomputable def fe (G:Nat):List JX→ah
 | []=>⟨HT.nil,G,fun _=>none⟩
 | x::xs=>(fe G xs).put x.g (some (.cells x.cells x.t true))
theorem Le (i:Nat) (G:Nat):(ah.mk HT.nil G fun _=>none).get i=none:=by
 by_cases hi:i<262144
 · rw[ah.nD hi]
   rw[so hi,pP,sm]
   simp only[HT.nil,rV]
 · rw[ah.kh hi]
theorem m5 (G:Nat):∀l,(fe G l).nx=G
 | []=>rfl
 | _::xs=>m5 G xs
theorem kG {G:Nat}:∀{l:List JX} {i:Nat} {o:aF},(fe G l).get i=some o→∃x∈l,x.g=i∧o= .cells x.cells x.t true
 | [],i,o,e=>by rw[fe,Le] at e;cases e
 | x::xs,i,o,e=>by
   rw[fe] at e
   by_cases h:x.g=i
   · subst h
     rw[ah.bx] at e
     exact ⟨x,by simp,rfl,(Option.some.inj e).symm⟩
   · rw[ah.bf h] at e
     obtain ⟨y,hy,h1,h2⟩:=kG e
     exact ⟨y,by simp [hy],h1,h2⟩
def HF (w:World) (x:JX):Prop:=∃C e fz,w.heap[x.g]? =some (.cells C e fz)∧C.toList=x.ns.map fun n=>Value.int x.k (Int.ofNat n)
def MP (G:Nat):Ph:=fun i=>if i<G then some ⟨i,0,0⟩ else none
theorem OK.begin {E:Env} {w:World} {l:List JX} (hl:∀x∈l,x.g<E.G∧HF w x):OK E (MP E.G) (fe E.G l) w:=by
 refine ⟨fun i l' h=>?_,?_,fun g hg=>?_,fun i o l' h1 h2=>?_,fun i j o p l' m _ _ h3 h4 _ h5=>?_⟩
 · unfold MP at h;rw[m5];split at h
   · assumption
   · cases h
 · rw[m5];exact Nat.le_refl _
 · unfold MP;rw[if_pos hg]
 · obtain ⟨x,hx,rfl,rfl⟩:=kG h1
   obtain ⟨hg,C,e,⟨lo,hi⟩,hw,hC⟩:=hl x hx
   unfold MP at h2;rw[if_pos hg] at h2
   obtain rfl:=Option.some.inj h2
   refine ⟨C,e,lo,hi,hw,?_,?_,(fun h=>by cases h),fun _ _ _=>rfl⟩
   · have:C.size=x.ns.length:=by rw[←Array.length_toList,hC,List.length_map]
     simp [JX.cells,cx,this]
   · intro k y hk
     simp only[JX.cells,List.getElem?_map,Option.map_eq_some_iff] at hk
     obtain ⟨n,hn,rfl⟩:=hk
     refine ⟨.int x.k (Int.ofNat n),?_,.int _ _⟩
     rw[Nat.zero_add,←Array.getElem?_toList,hC,List.getElem?_map,hn];rfl
 · unfold MP at h3 h4
   split at h3
   · split at h4
     · obtain rfl:=Option.some.inj h3
       obtain rfl:=Option.some.inj h4
       exact h5
     · cases h4
   · cases h3
theorem Ao {H:Type} {enc:TypeId×Value→H} {P:Program} {W:World} {name:String} {g:Nat} {t el:TypeId} {k:IntKind} {ns:List Nat} {cs:Array Value} (hg:P.globalNamed name=some g) (hv:W.var? P name=some cs)
 (hu:P.underlying t=some (.array ns.length el)) (he:P.underlying el=some (.int k)) (hc:P.cellsOf el=1) (hct:P.cellsOf t=ns.length) {base:Nat} {sp:Nat→Bool} {held:Bool} {fuel:Nat} {x:DataW H×List MemPlace}
 (hd:DataW.trod enc P W base sp held fuel t cs.toList=some x) (hx:x.1= .agg (ns.map fun n=> .lit (.int k (Int.ofNat n)))) (t':TypeId):HF W ⟨g,k,ns,t'⟩:=by
 obtain ⟨xs,m,_,ex,hl,hn,Yn⟩:=DataW.trod_array hu hd
 have e3:xs.map (·.1)=ns.map fun n=>DataW.lit (.int k (Int.ofNat n)):=by rw[ex] at hx;exact DataW.agg.inj hx
 simp only[World.var?,hg,Option.bind_some] at hv
 split at hv
 · rename_i C e fz hw
   obtain rfl:=Option.some.inj hv
   refine ⟨C,e,fz,hw,?_⟩
   apply List.ext_getElem?
   intro i
   by_cases hi:i<ns.length
   · have h1:=Yn i hi
     rw[hc,Nat.mul_one,List.getElem?_eq_getElem (by omega)] at h1
     obtain ⟨z,e1,e2,_⟩:=DataW.trod_int he h1
     have e4:(xs.map (·.1))[i]? =(ns.map fun n=>(DataW.lit (.int k (Int.ofNat n)):DataW H))[i]? :=by rw[e3]
     rw[List.getElem?_map,List.getElem?_map,List.getElem?_eq_getElem (by omega:i<xs.length),List.getElem?_eq_getElem hi,e2] at e4
     simp only[Option.map_some,Option.some.injEq,DataW.lit.injEq,Lit.int.injEq,true_and] at e4
     have h0:((C.toList.drop i).take 1)[0]? =some (.int k z):=by rw[e1];rfl
     rw[List.getElem?_map,List.getElem?_eq_getElem hi,Option.map_some,←e4]
     simpa using h0
   · rw[List.getElem?_eq_none (by omega),List.getElem?_eq_none (by simp;omega)]
 · cases hv
noncomputable def oS (o:eg):Bool:=eg.rec (motive:=fun _=>Bool) (fun v _=>Fa.eB (fun b=>b) false v) (fun _ _=>false) (fun _ _=>false) o
theorem ra {o:eg} (h:oS o=true):∃h',o= .ret (.bool true) h':=by
 cases o with
 | ret v h'=>
   cases v with
   | bool b=>exact ⟨h',by rw[show b=true from h]⟩
   | _=>cases h
 | panic v h'=>cases h
 | fail _ _=>cases h
end Go.Ab
end
section
namespace Go.Ab
variable {E:Env}
noncomputable def m6 (E:Env) (call:aI) (fuel:Nat) (fn:Func) (p:Option AV) (s:St):eg:=match bA (dv E call fuel) s.ds p s.h with
 | none=> .fail "unwind" none
 | some (some v,h')=> .panic v h'
 | some (none,h')=>match fB E h' s.ts fn.results.toList with
   | some vs=> .ret (dp vs) h'
   | none=> .fail "results" none
noncomputable def rb (E:Env) (call:aI) (fuel:Nat) (f:FuncId) (args:List AV) (h:ah):eg:=match E.P.funcs[f]? with
 | none=> .fail "no function" none
 | some fn=>match fn.body with
   | none=> .fail ("no body " ++fn.name) none
   | some b=>match ij E call fuel fn b args h .no with
     | .ok .normal s=>m6 E call fuel fn none s
     | .ok .ret s=>m6 E call fuel fn none s
     | .ok (.panic v) s=>m6 E call fuel fn (some v) s
     | .ok (.exit _) _=> .fail "exit" none
     | .fail why o=> .fail (why++ " in " ++fn.name) o
theorem jB (hE:fm E) (fuel:Nat) {call:aI} (ih:dy E call):(∀f args h v h',rb E call fuel f args h= .ret v h'→eA E f args h v h')∧(∀f args h v h',rb E call fuel f args h= .panic v h'→C4 E f args h v h'):=by
 have key:∀(f:FuncId) (args:List AV) (h:ah) (out:eg),rb E call fuel f args h=out→(∀why q,out≠ .fail why q)→
  ∃fn c e s p,E.P.funcs[f]? =some fn∧fn.body=some c∧ij E call fuel fn c args h .no= .ok e s∧
   ((p=none∧(e= .normal∨e= .ret))∨∃v,p=some v∧e= .panic v)∧
   ((∃v h',out= .panic v h'∧bA (dv E call fuel) s.ds p s.h=some (some v,h'))∨
    ∃vs h',out= .ret (dp vs) h'∧bA (dv E call fuel) s.ds p s.h=some (none,h')∧fB E h' s.ts fn.results.toList=some vs):=by
  intro f args h out e bY
  unfold rb at e
  split at e
  · exact absurd e.symm (bY _ _)
  rename_i fn hf
  split at e
  · exact absurd e.symm (bY _ _)
  rename_i c hb
  have fin:∀(p:Option AV) (s:St),m6 E call fuel fn p s=out→
   ((∃v h',out= .panic v h'∧bA (dv E call fuel) s.ds p s.h=some (some v,h'))∨
    ∃vs h',out= .ret (dp vs) h'∧bA (dv E call fuel) s.ds p s.h=some (none,h')∧fB E h' s.ts fn.results.toList=some vs):=by
   intro p s hm
   unfold m6 at hm
   split at hm
   · exact absurd hm.symm (bY _ _)
   · rename_i v h' hu;exact .inl ⟨v,h',hm.symm,hu⟩
   · rename_i h' hu
     split at hm
     · rename_i vs hv;exact .inr ⟨vs,h',hm.symm,hu,hv⟩
     · exact absurd hm.symm (bY _ _)
  split at e
  · rename_i s cP;exact ⟨fn,c,_,s,none,hf,hb,cP,.inl ⟨rfl,.inl rfl⟩,fin none s e⟩
  · rename_i s cP;exact ⟨fn,c,_,s,none,hf,hb,cP,.inl ⟨rfl,.inr rfl⟩,fin none s e⟩
  · rename_i v s cP;exact ⟨fn,c,_,s,some v,hf,hb,cP,.inr ⟨v,rfl,rfl⟩,fin (some v) s e⟩
  · exact absurd e.symm (bY _ _)
  · exact absurd e.symm (bY _ _)
 have run:∀(f:FuncId) (fn:Func) (c:Code) (args:List AV) (h:ah) (e:fi) (s:St) (p p':Option AV) (h':ah),E.P.funcs[f]? =some fn→fn.body=some c→ij E call fuel fn c args h .no= .ok e s→
  ((p=none∧(e= .normal∨e= .ret))∨∃v,p=some v∧e= .panic v)→bA (dv E call fuel) s.ds p s.h=some (p',h')→
  ∀(φ:Ph) (w:World) (vs:List Value),OK E φ h w→LR φ args vs→∀cs,∃φ' w' m' tmps todo,OK E φ' h' w'∧Fr φ h w φ' h' w'∧LR φ' s.ts tmps.toList∧
   ((p'=none∧m'= .returning)∨∃v v',p'=some v∧VR φ' v v'∧m'= .panicking [{v:=v',recovered:=false}])∧
   Steps E.P (lone (Frame.enter E.P f vs.toArray .normal) cs w) (lone {(bare f .normal).atR {tmps,defers:=[]} todo with mode:=m'} cs w'):=by
  intro f fn c args h e s p p' h' hf hb cP hp hu φ w vs ok hl cs
  obtain ⟨φ1,w1,a1,e1,x1,x2,x3,x4,x5,x6⟩:=(lY hE ih hf hb cP ok hl (kind:= .normal) (K:=fun _=>cs) ⟨rfl,fun fr hk=>by simp [tryRecover,show fr.kind= .normal from hk]⟩).is
  have zI:cur (fun _=>cs) s.rc=cs:=by cases s.rc<;>rfl
  have GJ:cur (fun _=>cs) RC.no=cs:=rfl
  rw[zI] at x6
  rw[GJ] at x6
  have hm:∃todo m,((p=none∧m= .returning)∨∃v v',p=some v∧VR φ1 v v'∧m= .panicking [{v:=v',recovered:=false}])∧
   Steps E.P (lone (Frame.enter E.P f vs.toArray .normal) cs w) (lone {(bare f .normal).atR a1 todo with mode:=m} cs w1):=by
   rcases hp with ⟨rfl,rfl | rfl⟩ | ⟨v,rfl,rfl⟩
   · cases x1;exact ⟨[],.returning,.inl ⟨rfl,rfl⟩,Steps.trans x6 (.one (stepR_end rfl))⟩
   · cases x1;obtain ⟨todo,hs⟩:=x6;exact ⟨_,.returning,.inl ⟨rfl,rfl⟩,Steps.trans hs (.one (stepR_ret rfl))⟩
   · cases x1 with
     | panic _ v' hv=>obtain ⟨todo,hs⟩:=x6;exact ⟨todo,_,.inr ⟨v,v',rfl,hv,rfl⟩,hs⟩
  obtain ⟨todo,m,Ue,kq⟩:=hm
  obtain ⟨φ2,w2,m2,sM,f2,GI,Uf⟩:=eQ hE ih s.ds hu (fr:={(bare f .normal).atR a1 todo with mode:=m}) (cs:=cs) x3 x2.ds (by
   rcases Ue with ⟨e,em⟩ | ⟨v,v',e,hv,em⟩
   · exact .inl ⟨e,em⟩
   · exact .inr ⟨v,v',e,hv,em⟩)
  exact ⟨φ2,w2,m2,a1.tmps,todo,sM,x4.trans f2,x2.ts.mono f2.ext,GI,Steps.trans kq Uf⟩
 refine ⟨fun f args h v h' e=>?_,fun f args h v h' e=>?_⟩
 · obtain ⟨fn,c,e1,s,p,hf,hb,cP,hp,jQ⟩:=key f args h _ e (by simp)
   rcases jQ with ⟨v1,h1,he,_⟩ | ⟨Ug,h1,he,hu,vm⟩
   · simp at he
   · simp at he;obtain ⟨rfl,rfl⟩:=he
     intro φ w vs ok hl
     refine ⟨enters hE hf hb _ w,fun cs=>?_⟩
     obtain ⟨φ',w',m',tmps,todo,lD,fr,ht,hm,hs⟩:=run f fn c args h e1 s p none h' hf hb cP hp hu φ w vs ok hl cs
     obtain ⟨v',hv,dq⟩:=lX lD ht vm
     rcases hm with ⟨_,rfl⟩ | ⟨v,Yf,e,_⟩
     · exact ⟨φ',w',v',_,hv,lD,fr,hs,rfl,rfl,rfl,rfl,fn,hf,dq⟩
     · simp at e
 · obtain ⟨fn,c,e1,s,p,hf,hb,cP,hp,jQ⟩:=key f args h _ e (by simp)
   rcases jQ with ⟨v1,h1,he,hu⟩ | ⟨Ug,h1,he,_⟩
   · simp at he;obtain ⟨rfl,rfl⟩:=he
     intro φ w vs ok hl
     refine ⟨enters hE hf hb _ w,fun cs=>?_⟩
     obtain ⟨φ',w',m',tmps,todo,lD,fr,ht,hm,hs⟩:=run f fn c args h e1 s p (some v) h' hf hb cP hp hu φ w vs ok hl cs
     rcases hm with ⟨e,_⟩ | ⟨v2,v',e,hv,rfl⟩
     · simp at e
     · simp at e;subst e
       exact ⟨φ',w',v',_,hv,lD,fr,hs,rfl,rfl,rfl,fn,hf⟩
   · simp at he
namespace Fa
abbrev Ap:=FuncId→List AV→ah→Option (AV×ah)
def yb (E:Env) (M:Ap):Prop:=∀f args h v h',M f args h=some (v,h')→eA E f args h v h'
noncomputable def mf (nx:Nat) (l:List (Nat×aF)):ah:=List.rec (motive:=fun _=>ah) ⟨HT.nil,nx,fun _=>none⟩ (fun x _ h=>h.put x.1 (some x.2)) l
theorem ql {nx:Nat}:∀{l:List (Nat×aF)} {i:Nat} {o:aF},(mf nx l).get i=some o→(i,o)∈l
 | [],i,o,e=>by
   have e:(ah.mk HT.nil nx fun _=>none).get i=some o:=e
   by_cases hi:i<262144
   · rw[ah.nD hi] at e
     have e:(hp i).get HT.nil=some o:=e
     rw[so hi,pP,sm] at e
     simp only[HT.nil,rV] at e
     cases e
   · rw[ah.kh hi] at e;cases e
 | x::xs,i,o,e=>by
   have e:((mf nx xs).put x.1 (some x.2)).get i=some o:=e
   by_cases h:x.1=i
   · subst h
     rw[ah.bx] at e
     cases e;simp
   · rw[ah.bf h] at e
     exact List.mem_cons_of_mem _ (ql e)
theorem th (nx:Nat):∀l,(mf nx l).nx=nx
 | []=>rfl
 | x::xs=>by
   show ((mf nx xs).put x.1 (some x.2)).nx=nx
   rw[ah.F8];exact th nx xs
structure Ent where
 f:FuncId
 args:List AV
 nx:Nat
 K:List (Nat×aF)
 v:AV
 nx':Nat
 K':List (Nat×aF)
end Fa
end Go.Ab
end
section
namespace Go.Ab
variable {E:Env}
theorem LR.oT {φ φ':Ph} {xs:List AV} {ys zs:List Value} (h:LR φ xs ys) (h':LR φ' xs zs) (ih:∀(i:Nat) (x:AV) (y z:Value),xs[i]? =some x→ys[i]? =some y→zs[i]? =some z→VR φ x z):LR φ xs zs:=by
 refine ⟨h'.1,fun i x z hx hz=>?_⟩
 have hi:i<xs.length:=(List.getElem?_eq_some_iff.1 hx).1
 have:i<ys.length:=by rw[←h.1];exact hi
 exact ih i x ys[i] z hx (by simp [this]) hz
theorem VR.back {φ φ':Ph} (hle:φ.le φ') {x:AV} {y:Value} (h:VR φ x y):∀{z:Value},VR φ' x z→VR φ x z:=by
 induction h with
 | bool b=>intro z h;cases h;exact .bool b
 | int k n=>intro z h;cases h;exact .int k n
 | str s=>
   intro z h
   generalize he:AV.str s.data.toList=q at h
   cases h with
   | str s'=>exact .str s'
   | _=>cases he
 | cK=>intro z h;cases h;exact .cK
 | ptr o h=>intro z h';cases h' with | ptr _ h'=>rw[hle _ _ h] at h';cases h';exact .ptr o h
 | aK=>intro z h;cases h;exact .aK
 | slice o len cap op h=>intro z h';cases h' with | slice _ _ _ _ h'=>rw[hle _ _ h] at h';cases h';exact .slice o len cap op h
 | cb a cap=>intro z h;cases h;exact .cb _ _
 | bT=>intro z h;cases h;exact .bT
 | map h=>intro z h';cases h' with | map h'=>rw[hle _ _ h] at h';cases h';exact .map h
 | func f a b a' b' la lb ha hb Tm Tn=>
   intro z h
   obtain ⟨c,d,rfl,hc,hd⟩:=VR.sh h
   have h1:LR φ a c.toList:=LR.oT (ys:=a'.toList) ⟨by simpa using la,fun i x y p q=>ha i x y p (by simpa using q)⟩ hc fun i x y z p q r=>Tm i x y p (by simpa using q) (hc.2 i x z p r)
   have h2:LR φ b d.toList:=LR.oT (ys:=b'.toList) ⟨by simpa using lb,fun i x y p q=>hb i x y p (by simpa using q)⟩ hd fun i x y z p q r=>Tn i x y p (by simpa using q) (hd.2 i x z p r)
   have:=VR.FZ f h1 h2
   simpa using this
 | nilFunc=>intro z h;cases h;exact .nilFunc
 | yield h=>intro z h';cases h' with | yield h'=>rw[hle _ _ h] at h';cases h';exact .yield h
 | iface t v v' h ih=>intro z h';cases h' with | iface _ _ _ h'=>exact .iface t v _ (ih h')
 | nilIface=>intro z h;cases h;exact .nilIface
 | agg cs dI hl h ih=>
   intro z h'
   obtain ⟨d,rfl,hd⟩:=VR.eP h'
   have h1:LR φ cs d.toList:=LR.oT (ys:=dI.toList) ⟨by simpa using hl,fun i x y p q=>h i x y p (by simpa using q)⟩ hd fun i x y z p q r=>ih i x y p (by simpa using q) (hd.2 i x z p r)
   have:=VR.Ej h1
   simpa using this
 | any v h=>intro z h';cases h' with | any _ h'=>exact .any _ h'
 | tuple cs dI hl h ih=>
   intro z h'
   obtain ⟨d,rfl,hd⟩:=VR.vD h'
   have h1:LR φ cs d.toList:=LR.oT (ys:=dI.toList) ⟨by simpa using hl,fun i x y p q=>h i x y p (by simpa using q)⟩ hd fun i x y z p q r=>ih i x y p (by simpa using q) (hd.2 i x z p r)
   have:=VR.tuple' h1
   simpa using this
theorem LR.back {φ φ':Ph} (hle:φ.le φ') {xs:List AV} {ys zs:List Value} (h:LR φ xs ys) (h':LR φ' xs zs):LR φ xs zs:=
 LR.oT h h' fun i x y z p q r=>(h.2 i x y p q).back hle (h'.2 i x z p r)
theorem OR.back {φ φ':Ph} (hle:φ.le φ') {o:aF} {l:Loc} {x z:Option Obj} (h:OR E φ o l x) (h':OR E φ' o l z):OR E φ o l z:=by
 cases o with
 | cells cs e ro=>
   obtain ⟨C,e1,lo,hi,_,hc⟩:=h
   obtain ⟨D,e2,BG,xf,hz,hd⟩:=h'
   refine ⟨D,e2,BG,xf,hz,hd.size,fun k x hk=>?_,hd.free,hd.zero⟩
   obtain ⟨y,_,hy⟩:=hc.val k x hk
   obtain ⟨y',h1,Kl⟩:=hd.val k x hk
   exact ⟨y',h1,hy.back hle Kl⟩
 | map es clock=>
   obtain ⟨_,Yo,_,hl,hv⟩:=h
   obtain ⟨h0,Yp,hz,JT,Yq⟩:=h'
   refine ⟨h0,Yp,hz,JT,fun i x y hx hy=>?_⟩
   have hi:i<es.length:=(List.getElem?_eq_some_iff.1 hx).1
   have:i<Yo.toList.length:=by rw[←hl];exact hi
   have a:=hv i x _ hx (List.getElem?_eq_getElem this)
   have b:=Yq i x y hx hy
   exact ⟨a.key.back hle b.key,a.val.back hle b.val,b.born⟩
 | nj s pos=>exact h'
 | se m since seen ke=>
   cases m with
   | none=>exact h'
   | some m=>
     obtain ⟨_,lm,hm,_⟩:=h
     obtain ⟨h0,lm',N6,hz⟩:=h'
     rw[hle _ _ hm] at N6;cases N6
     exact ⟨h0,lm,hm,hz⟩
 | loop st pd ts ps as_ bd dn=>
   obtain ⟨_,r,_,hr⟩:=h
   obtain ⟨h0,r',hz,F'⟩:=h'
   obtain ⟨ld,hd,_⟩:=hr.defers
   obtain ⟨ld',Mx,Bq⟩:=F'.defers
   rw[hle _ _ hd] at Mx;cases Mx
   exact ⟨h0,r',hz,F'.state,F'.pending,hr.tmps.back hle F'.tmps,F'.params,F'.assign,F'.body,⟨ld,hd,Bq⟩,F'.fn⟩
 | Eg=>exact h'
def Has (h h':ah):Prop:=∀i o,h.get i=some o→h'.get i=some o
theorem Has.refl (h:ah):Has h h:=fun _ _ e=>e
theorem Has.trans {a b c:ah} (x:Has a b) (y:Has b c):Has a c:=fun i o e=>y i o (x i o e)
theorem OK.forget {φ φ':Ph} {h h':ah} {w w':World} (ok:OK E φ h w) (hle:φ.le φ') (lD:OK E φ' h' w') (hs:Has h h'):OK E φ h w' where
 qL:=ok.qL
 nx:=ok.nx
 lN:=ok.lN
 live i o l a b:=(ok.live i o l a b).back hle (lD.live i o l (hs i o a) (hle _ _ b))
 inj:=ok.inj
theorem Fr.forget {φ φ':Ph} {h h':ah} {w w':World} (f:Fr φ h w φ' h' w'):Fr φ h w φ h w' where
 ext:=Ph.le_refl φ
 old _ _:=rfl
 nx:=Nat.le_refl _
 os:=f.os
 tape:=f.tape
 output:=f.output
 size:=f.size
 sj:=f.sj
 own i o l a b c:= .inr ⟨i,o,l,a,b,c,rfl⟩
def AV.plain:Nat→AV→Bool
 | 0,_=>false
 | n+1,x=>match x with
   | .bool _ | .int .. | .str _ | .cK | .aK | .bT | .nilFunc | .nilIface=>true
   | .iface _ v=>AV.plain n v
   | .agg cs=>cs.all (AV.plain n)
   | .tuple cs=>cs.all (AV.plain n)
   | _=>false
theorem VR.plain {φ φ':Ph}:∀(n:Nat) {x:AV} (_:AV.plain n x=true) {y:Value},VR φ' x y→VR φ x y
 | 0,_,h,_,_=>by cases h
 | n+1,x,h,y,hv=>by
   have ih:= @VR.plain φ φ' n
   cases hv with
   | bool b=>exact .bool b
   | int k m=>exact .int k m
   | str s=>exact .str s
   | cK=>exact .cK
   | aK=>exact .aK
   | bT=>exact .bT
   | nilFunc=>exact .nilFunc
   | nilIface=>exact .nilIface
   | iface t v v' h'=>exact .iface t v v' (ih (by simpa [AV.plain] using h) h')
   | agg cs dI hl hc=>
     refine .agg cs dI hl fun i x y a b=>ih ?_ (hc i x y a b)
     simp only[AV.plain,List.all_eq_true] at h
     exact h x (List.mem_of_getElem? a)
   | tuple cs dI hl hc=>
     refine .tuple cs dI hl fun i x y a b=>ih ?_ (hc i x y a b)
     simp only[AV.plain,List.all_eq_true] at h
     exact h x (List.mem_of_getElem? a)
   | _=>cases h
theorem eA.closed {f:FuncId} {args:List AV} {h':ah} {v:AV} (r:eA E f args (Fa.mf E.G []) v h') (ha:args.all (AV.plain 20)=true) (hv:AV.plain 20 v=true) (h:ah):eA E f args h v h:=fun φ w vs ok hl=>by
 let φ0:Ph:=fun i=>if i<E.G then φ i else none
 have hle:φ0.le φ:=fun i l e=>by
  simp only[φ0] at e
  split at e
  · exact e
  · cases e
 have HG:∀{i o},(Fa.mf E.G []).get i=some o→False:=fun e=>by cases Fa.ql e
 have Un:OK E φ0 (Fa.mf E.G []) w:=by
  refine ⟨fun i l e=>?_,Nat.le_refl _,fun g hg=>?_,fun i o l e=>(HG e).elim,fun i j o p l m e=>(HG e).elim⟩
  · simp only[φ0] at e
    split at e
    · assumption
    · cases e
  · simp only[φ0,hg,if_true];exact ok.lN g hg
 have Ka:LR φ0 args vs:=⟨hl.1,fun i x y a b=>(hl.2 i x y a b).plain 20 (List.all_eq_true.1 ha x (List.mem_of_getElem? a))⟩
 obtain ⟨h1,h2⟩:=r φ0 w vs Un Ka
 refine ⟨h1,fun cs=>?_⟩
 obtain ⟨φ',w',v',fr,x1,x2,x3,x4⟩:=h2 cs
 have Aq:∀b,b<w.heap.size→w'.heap[b]? =w.heap[b]? :=fun b hb=>x3.sj b hb fun i o l e=>(HG e).elim
 refine ⟨φ,w',v',fr,x1.plain 20 hv,⟨ok.qL,ok.nx,ok.lN,fun i o l a b=>?_,ok.inj⟩,⟨Ph.le_refl φ,fun _ _=>rfl,Nat.le_refl _,x3.os,x3.tape,x3.output,x3.size,fun b hb _=>Aq b hb,fun i o l a b c=> .inr ⟨i,o,l,a,b,c,rfl⟩⟩,x4⟩
 have hr:=ok.live i o l a b
 by_cases hb:l.cH<w.heap.size
 · rw[Aq _ hb];exact hr
 · rw[Array.getElem?_eq_none (by omega)] at hr
   exact hr.absurd.elim
end Go.Ab
end
