import Derived.Laws.Externs
import Derived.Lib.Bytealg
import Derived.Maps.Own
import Derived.Maps.Range
import Derived.Sort.KeysCollected
import GoSem.ClaimChange
import Derived.OpenShut
import Derived.FnData
import Derived.ChangeArms
import Derived.Test.YtobmbjlcklkpoaaA5
import Derived.Test.YtobmbjlcklkpoaaA3
import Derived.Test.YtobmbjlcklkpoaaA1
import Derived.Test.YtobmbjlcklkpoaaA4
set_option linter.unusedVariables false
set_option linter.unusedSimpArgs false
section
namespace Go.Ab.Fa
variable {E:Env} {F:RF} {n:Nat}
theorem jt {ts:List AV} {x:Operand} {a:AV} (h:eu E ts x=some a):f' E ts [x]=some [a]:=by simp [f',eH,h]
theorem DT {ts:List AV} {x y:Operand} {a b:AV} (h:eu E ts x=some a) (h':eu E ts y=some b):f' E ts [x,y]=some [a,b]:=by simp [f',eH,h,h']
theorem Vv (v:AV):abt v=nu v:=by
 cases v with
 | str s=>show some (jm s)=some s.length;rw[fU]
 | _=>rfl
theorem Og {h:aw} {size m:Nat} {v:AV} {l:List AV} (e:QK h size m v=some l):fq h size m v=some l:=by
 cases v with
 | aK=>
   obtain ⟨h1,e1⟩:=fL (show bc (Nat.beq m 0) (some []) none=some l from e)
   simp only[fq];rw[if_pos (mF h1)];exact e1
 | slice i o len c b=>
   obtain ⟨h1,e1⟩:=fL (show bc (Nat.ble m len) (ob none (fun obj=>yw (fun cs _ _=>bc (Nat.ble (o+m*size) (jm cs)) (some (sI (sH cs o) (m*size))) none) none obj) (h.get i)) none=some l from e)
   obtain ⟨obj,h2,e2⟩:=hB e1
   obtain ⟨cs,el,ro,rfl,e3⟩:=qW e2
   obtain ⟨h3,e4⟩:=fL e3
   have h1:=fM h1
   have h3:=fM h3
   rw[fU] at h3
   rw[qi,qh] at e4
   simp only[fq,h2]
   rw[if_pos h1]
   by_cases h0:m=0
   · subst h0
     rw[if_pos rfl]
     rw[Nat.zero_mul,List.take_zero] at e4
     exact e4
   · rw[if_neg h0,if_pos h3];exact e4
 | _=>exact e
theorem Q_ {h:aw} {obj:aY} {f:aw→AV×aw} {p:AV×aw} (e:ob none (fun h'=>some (f h')) (h.new obj)=some p):∃h',h.new obj=some h'∧p=f h':=by
 obtain ⟨h',h1,e1⟩:=hB e
 exact ⟨h',h1,(Option.some.inj e1).symm⟩
theorem Vw {argTypes:Array TypeId} {sT xT elem:TypeId} {xd:TypeDesc} {size bytes:Nat} {z:AV} (h1:argTypes[0]? =some sT) (h2:argTypes[1]? =some xT) (h3:E.P.underlying sT=some (.slice elem)) (h4:E.P.underlying xT=some xd)
 (h5:mC xd=false) (h6:cq E elem=some size) (h7:fT E elem=some bytes) (h8:fE E elem=some z) (h9:z.cells.length=size)
 {h:aw} {s x:AV} {p:AV×aw} (e:abu elem size bytes h s x=some p):b8 E h argTypes s x=some p:=by
 obtain ⟨m,a1,e1⟩:=hB e
 rw[Vv] at a1
 obtain ⟨new,a2,e2⟩:=hB e1
 have a2:=Og a2
 obtain ⟨a3,e3⟩:=fL e2
 obtain ⟨a4,e4⟩:=fL e3
 rw[qS,Im] at a3
 have a4:=mF a4
 rw[fU] at a4
 unfold b8
 simp only[h1,h2,h3,h4,h5,h6,h7,h8,a1,a2]
 rw[if_neg (by simp)]
 rw[if_pos ⟨h9,a3,a4⟩]
 rcases oG e4 with ⟨rfl,e5⟩ | ⟨i,o,len,cap,op,rfl,e5⟩
 · cases hm:Nat.beq m 0 with
   | true=>
     rw[hm,jz] at e5
     simp only;rw[if_pos (mF hm)];exact e5
   | false=>
     rw[hm,dY] at e5
     obtain ⟨a5,e6⟩:=fL e5
     have a5:(4*m+4096)*(bytes+1)≤1099511627776:=fM a5
     obtain ⟨h',a6,rfl⟩:=Q_ e6
     simp only
     rw[if_neg (by intro ee;rw[ee] at hm;cases hm),if_pos a5]
     simp only[a6]
 · obtain ⟨obj,a5,e6⟩:=hB e5
   obtain ⟨cs,el,ro,rfl,e7⟩:=qW e6
   obtain ⟨a6,e8⟩:=qV e7
   subst a6
   simp only[a5]
   cases hc:Nat.ble (Nat.add len m) cap with
   | true=>
     rw[hc,jz] at e8
     have hc:len+m≤cap:=fM hc
     obtain ⟨a7,e9⟩:=fL e8
     have a7:o+(len+m)*size≤jm cs:=fM a7
     rw[fU] at a7
     rw[if_pos hc,if_pos a7,←Option.some.inj e9,FH];rfl
   | false=>
     rw[hc,dY] at e8
     have hc:cap<len+m:=kB hc
     obtain ⟨a7,e9⟩:=fL e8
     have a7:(4*(len+m)+4096)*(bytes+1)≤1099511627776:=fM a7
     obtain ⟨a8,YW⟩:=fL e9
     have a8:o+len*size≤jm cs:=fM a8
     rw[fU] at a8
     rw[if_neg (by omega)]
     cases op with
     | true=>
       rw[jz] at YW
       obtain ⟨a9,e11⟩:=fL YW
       obtain ⟨YX,e12⟩:=fL e11
       obtain ⟨a0,e12⟩:=fL e12
       have a0:o=0:=mF a0
       have a9:=mF a9
       have YX:o+cap*size=jm cs:=mF YX
       rw[fU] at YX
       obtain ⟨h',a11,rfl⟩:=Q_ e12
       rw[nN,qi,qh] at a11
       rw[if_pos ⟨a7,a8,fun _=>⟨a9,YX,a0⟩⟩]
       rw[if_pos rfl]
       have YY:(h.put i none).new (.cells ((cs.drop o).take (len*size)++new) elem false)=some h':=a11
       simp only[YY];rfl
     | false=>
       rw[dY] at YW
       obtain ⟨h',a11,rfl⟩:=Q_ YW
       rw[nN,qi,qh] at a11
       rw[if_pos ⟨a7,a8,fun hh=>by cases hh⟩]
       rw[if_neg (by simp)]
       have YY:h.new (.cells ((cs.drop o).take (len*size)++new) elem false)=some h':=a11
       simp only[YY];rfl
theorem lT {b:Builtin} (h1:b≠ .len) (h2:b≠ .cap) (h3:b≠ .max) (h4:b≠ .min) (a:Array Operand) (t:Array TypeId):sN E (.call ⟨.builtin b,a,t⟩):=by
 cases b<;>first | exact absurd rfl h1 | exact absurd rfl h2 | exact absurd rfl h3 | exact absurd rfl h4 | exact ⟨fun _=>rfl,fun _ _=>rfl,fun _=>rfl⟩
theorem Oh (a:Array Operand) (t:Array TypeId):gz E F n (.call ⟨.builtin .append,a,t⟩) (match a.toList with
 | [s,x]=>wO E F n s (fun gs=>wO E F n x (fun gx=>N' E t gs gx) .bad) .bad
 | _=> .bad):=by
 have nn:sN E (.call ⟨.builtin .append,a,t⟩):=lT (by simp) (by simp) (by simp) (by simp) a t
 generalize hl:a.toList=l
 match l with
 | []=>trivial
 | [_]=>trivial
 | _::_::_::_=>trivial
 | [s,x]=>
   simp only
   rcases cg E F n s (fun gs=>wO E F n x (fun gx=>N' E t gs gx) .bad) (.bad:Kd F.T) with h | ⟨gs,h,hs⟩<;>rw[h]
   · trivial
   rcases cg E F n x (fun gx=>N' E t gs gx) (.bad:Kd F.T) with h | ⟨gx,h,hx⟩<;>rw[h]
   · trivial
   unfold N'
   simp only[hZ,Array.getElem?_toList,jb,oJ,QW,yE]
   have fin:∀(f:F.T→aw→Option (AV×aw)),(∀r h p,f r h=some p→b8 E h t (gs r) (gx r)=some p)→gz E F n (.call ⟨.builtin .append,a,t⟩) (.wr f):=by
    intro f hf
    refine ⟨nn,fun call r h rc o p ho e=>?_⟩
    simp only[dp,ho,hl,DT (hs r) (hx r),hf r h p e]
   cases h1:t[0]? with
   | none=>trivial
   | some sT=>cases h2:t[1]? with
     | none=>trivial
     | some xT=>
       simp only
       cases h3:E.P.underlying sT with
       | none=>trivial
       | some sd=>cases h4:E.P.underlying xT with
         | none=>cases sd<;>trivial
         | some xd=>cases sd with
           | slice elem=>
             simp only
             cases h5:mC xd with
             | true=>
               rw[if_pos rfl]
               apply fin
               intro r h p e
               unfold b8
               simp only[h1,h2,h3,h4,h5]
               rw[if_pos trivial];exact e
             | false=>
               rw[if_neg (by simp)]
               cases h6:cq E elem with
               | none=>trivial
               | some size=>cases h7:fT E elem with
                 | none=>trivial
                 | some bytes=>cases h8:fE E elem with
                   | none=>trivial
                   | some z=>
                     simp only
                     by_cases h9:z.cells.length=size
                     · rw[if_pos h9]
                       exact fin _ fun r h p e=>Vw h1 h2 h3 h4 h5 h6 h7 h8 h9 e
                     · rw[if_neg h9];trivial
           | _=>trivial
theorem MI (a:Array Operand) (t:Array TypeId):gz E F n (.call ⟨.builtin .copy,a,t⟩) (match a.toList with
 | [s,x]=>wO E F n s (fun gs=>wO E F n x (fun gx=> .wr fun r h=>uJ E h t (gs r) (gx r)) .bad) .bad
 | _=> .bad):=by
 have nn:sN E (.call ⟨.builtin .copy,a,t⟩):=lT (by simp) (by simp) (by simp) (by simp) a t
 generalize hl:a.toList=l
 match l with
 | []=>trivial
 | [_]=>trivial
 | _::_::_::_=>trivial
 | [s,x]=>
   simp only
   rcases cg E F n s (fun gs=>wO E F n x (fun gx=>(.wr fun r h=>uJ E h t (gs r) (gx r):Kd F.T)) .bad) (.bad:Kd F.T) with h | ⟨gs,h,hs⟩<;>rw[h]
   · trivial
   rcases cg E F n x (fun gx=>(.wr fun r h=>uJ E h t (gs r) (gx r):Kd F.T)) (.bad:Kd F.T) with h | ⟨gx,h,hx⟩<;>rw[h]
   · trivial
   refine ⟨nn,fun call r h rc o p ho e=>?_⟩
   simp only[dp,ho,hl,DT (hs r) (hx r),e]
theorem KP (a:Array Operand) (t:Array TypeId):gz E F n (.call ⟨.builtin .recover,a,t⟩) (.uk fun _ _ h rc=>match rc with
 | .iy x=> .rG x
 | .pX _=> .fail "" none
 | _=> .val .nilIface h):=by
 refine ⟨lT (by simp) (by simp) (by simp) (by simp) a t,fun fc call _ r h rc o ho=>?_⟩
 simp only[dp,ho]
 cases rc<;>first | trivial | rfl
theorem YZ (a:Array Operand) (t:Array TypeId):gz E F n (.call ⟨.builtin .len,a,t⟩) (match jn t.toList 0,a.toList with
 | some t,[x]=>wO E F n x (fun g=>match j9 E.P t with
   | some .string=> .hJ fun r=>qQ (fun s=>some (.int .i64 (Int.ofNat (jm s)))) none (g r)
   | some (.array m _)=> .hJ fun _=>some (.int .i64 (Int.ofNat m))
   | some (.slice _)=> .hJ fun r=>jG (some (.int .i64 (Int.ofNat 0))) (fun _ _ m _ _=>some (.int .i64 (Int.ofNat m))) (vZ (some (.int .i64 (Int.ofNat 0))) none (g r)) (g r)
   | some (.map _ _)=> .red fun r h=>Mq h (g r)
   | _=> .bad) .bad
 | _,_=> .bad):=by
 rw[hZ,Array.getElem?_toList]
 cases ht:t[0]? with
 | none=>trivial
 | some tt=>
   generalize hl:a.toList=l
   match l with
   | []=>trivial
   | _::_::_=>trivial
   | [x]=>
     simp only[jb]
     rcases cg E F n x (fun g=>match E.P.underlying tt with
      | some .string=>(.hJ fun r=>qQ (fun s=>some (.int .i64 (Int.ofNat (jm s)))) none (g r):Kd F.T)
      | some (.array m _)=> .hJ fun _=>some (.int .i64 (Int.ofNat m))
      | some (.slice _)=> .hJ fun r=>jG (some (.int .i64 (Int.ofNat 0))) (fun _ _ m _ _=>some (.int .i64 (Int.ofNat m))) (vZ (some (.int .i64 (Int.ofNat 0))) none (g r)) (g r)
      | some (.map _ _)=> .red fun r h=>Mq h (g r)
      | _=> .bad) .bad with h | ⟨g,h,hg⟩<;>rw[h]
     · trivial
     cases hu:E.P.underlying tt with
     | none=>trivial
     | some d=>cases d with
       | string=>
         intro r v e
         obtain ⟨s,e1,e2⟩:=oF e
         simp only[bE,ht,hl,jt (hg r),hu,e1]
         rw[←e2,fU];rfl
       | array m el=>
         intro r v e
         simp only[bE,ht,hl,jt (hg r),hu]
         exact e
       | slice el=>
         intro r v e
         rcases Il e with ⟨e1,e2⟩ | ⟨i,o,l,c,b,e1,e2⟩ | ⟨e1,e2⟩
         · simp only[bE,ht,hl,jt (hg r),hu,e1];exact e2
         · simp only[bE,ht,hl,jt (hg r),hu,e1];exact e2
         · simp only[bE,ht,hl,jt (hg r),hu,e1];exact e2
       | map key el=>
         intro r h v e
         have e:Mq h (g r)=some v:=e
         generalize hm:g r=m at e
         cases m with
         | dU=>exact .inl (by simp only[bE,ht,hl,jt (hg r),hu,hm];exact e)
         | map i=>
           refine .inr ⟨by simp only[bE,ht,hl,jt (hg r),hu,hm],?_⟩
           obtain ⟨o,h3,h4⟩:=hB (show ob none (fun o=>Vb (fun es=>some (AV.int .i64 (Int.ofNat (jm es)))) none o) (h.get i)=some v from e)
           cases o with
           | map es c=>
             have h4:some (AV.int .i64 (Int.ofNat (jm es)))=some v:=h4
             simp only[dW,ht,hl,jt (hg r),hu,hm,h3]
             rw[←h4,fU];rfl
           | _=>cases h4
         | _=>cases e
       | _=>trivial
theorem Y0 (a:Array Operand) (t:Array TypeId):gz E F n (.call ⟨.builtin .cap,a,t⟩) (match jn t.toList 0,a.toList with
 | some t,[x]=>wO E F n x (fun g=>match j9 E.P t with
   | some (.slice _)=> .hJ fun r=>jG (some (.int .i64 (Int.ofNat 0))) (fun _ _ _ c b=>bc b none (some (.int .i64 (Int.ofNat c)))) none (g r)
   | _=> .bad) .bad
 | _,_=> .bad):=by
 rw[hZ,Array.getElem?_toList]
 cases ht:t[0]? with
 | none=>trivial
 | some tt=>
   generalize hl:a.toList=l
   match l with
   | []=>trivial
   | _::_::_=>trivial
   | [x]=>
     simp only[jb]
     rcases cg E F n x (fun g=>match E.P.underlying tt with
      | some (.slice _)=>(.hJ fun r=>jG (some (.int .i64 (Int.ofNat 0))) (fun _ _ _ c b=>bc b none (some (.int .i64 (Int.ofNat c)))) none (g r):Kd F.T)
      | _=> .bad) .bad with h | ⟨g,h,hg⟩<;>rw[h]
     · trivial
     cases hu:E.P.underlying tt with
     | none=>trivial
     | some d=>cases d with
       | slice el=>
         intro r v e
         rcases oG e with ⟨e1,e2⟩ | ⟨i,o,l,c,b,e1,e2⟩
         · simp only[bE,ht,hl,jt (hg r),hu,e1];exact e2
         · obtain ⟨rfl,e3⟩:=qV e2
           simp only[bE,ht,hl,jt (hg r),hu,e1];exact e3
       | _=>trivial
theorem Oi (f:FuncId) (a:Array Operand) (t:Array TypeId):gz E F n (.call ⟨.value (.func f),a,t⟩) (wL E F n a.toList (fun gs=>match E.mO f with
 | some e=> .hJ fun r=>e (gs r)
 | none=>match E.iW f with
   | some g=> .wr fun r h=>g (gs r) h
   | none=> .call (.fn f) gs) .bad):=by
 rcases ua E F n a.toList (fun gs=>match E.mO f with
  | some e=>(.hJ fun r=>e (gs r):Kd F.T)
  | none=>match E.iW f with
    | some g=> .wr fun r h=>g (gs r) h
    | none=> .call (.fn f) gs) .bad with h | ⟨gs,h,hg⟩<;>rw[h]
 · trivial
 cases hp:E.mO f with
 | some e=>
   intro r v h
   simp only[bE,hp,hg];exact h
 | none=>
   have nn:sN E (.call ⟨.value (.func f),a,t⟩):=⟨fun _=>by simp only[bE,hp],fun _ _=>rfl,fun _=>rfl⟩
   have hc:∀r,callee E (fk F n r) ⟨.value (.func f),a,t⟩=some (.fn f,gs r):=by
    intro r
    simp only[callee,hg,eu]
    simp
   cases hs:E.iW f with
   | some g=>
     refine ⟨nn,fun call r h rc o p ho e=>?_⟩
     have e':g (gs r) h=some p:=e
     simp only[dp,ho,hc,j3,hs,e']
   | none=>
     refine ⟨nn,fun call r h rc o ho=>?_⟩
     simp only[dp,ho,hc,j3,hs]
     cases call (.fn f) (gs r) h<;>rfl
theorem Bq {a b:ju} (h1:∀v h',a= .ret v h'→b= .ret v h') (h2:∀v h',a= .panic v h'→b= .panic v h'):Xm (mX a) (mX b):=by
 cases a with
 | ret v h=>rw[h1 v h rfl];rfl
 | panic v h=>rw[h2 v h rfl];rfl
 | fail _ _=>trivial
theorem vA (x:Operand) (hx:∀f,x≠ .func f) (a:Array Operand) (t:Array TypeId):gz E F n (.call ⟨.value x,a,t⟩) (wO E F n x (fun gf=>wL E F n a.toList (fun gs=> .uk fun call r h _=>Mn
 (fun g first captured=>ob (mX (call (.fn g) (lM first (lM (gs r) captured)) h)) (fun sp=>ob (.fail "" none) (fun p=> .val p.1 p.2) (sp (lM first (lM (gs r) captured)) h)) (E.iW g))
 (fun l=>mX (call (.vg l) (gs r) h)) (.fail "" none) (gf r)) .bad) .bad):=by
 have nn:sN E (.call ⟨.value x,a,t⟩):=by
  cases x with
  | func f=>exact absurd rfl (hx f)
  | _=>exact ⟨fun _=>rfl,fun _ _=>rfl,fun _=>rfl⟩
 let K:(F.T→AV)→(F.T→List AV)→Kd F.T:=fun gf gs=> .uk fun call r h _=>Mn
  (fun g first captured=>ob (mX (call (.fn g) (lM first (lM (gs r) captured)) h)) (fun sp=>ob (.fail "" none) (fun p=> .val p.1 p.2) (sp (lM first (lM (gs r) captured)) h)) (E.iW g))
  (fun l=>mX (call (.vg l) (gs r) h)) (.fail "" none) (gf r)
 show gz E F n _ (wO E F n x (fun gf=>wL E F n a.toList (fun gs=>K gf gs) .bad) .bad)
 rcases cg E F n x (fun gf=>wL E F n a.toList (fun gs=>K gf gs) .bad) .bad with h | ⟨gf,h,hf⟩<;>rw[h]
 · trivial
 rcases ua E F n a.toList (fun gs=>K gf gs) .bad with h | ⟨gs,h,hg⟩<;>rw[h]
 · trivial
 refine ⟨nn,fun fc call hle r h rc o ho=>?_⟩
 have ec:∀R,callee E (fk F n r) ⟨.value x,a,t⟩=R→dp E call (fk F n r) h rc o=(match R with
  | some (f,args)=>match j3 E f with
    | some g=>(match g args h with | some (x,h')=> .val x h' | none=> .fail "eff" (some o))
    | none=>mX (call f args h)
  | none=> .fail "callee" (some o)):=by
  intro R hR
  simp only[dp,ho,hR]
  cases R with
  | none=>rfl
  | some p=>
    obtain ⟨f,args⟩:=p
    simp only
    cases j3 E f with
    | none=>simp only;cases call f args h<;>rfl
    | some g=>rfl
 show Xm (Mn _ _ _ (gf r)) _
 cases hv:gf r with
 | func g first captured=>
   have hc:callee E (fk F n r) ⟨.value x,a,t⟩=some (.fn g,first++gs r++captured):=by
    simp only[callee,hf,hg,hv]
   rw[ec _ hc]
   have ha:lM first (lM (gs r) captured)=first++gs r++captured:=by rw[nN,nN,List.append_assoc]
   show Xm (ob (mX (fc (.fn g) (lM first (lM (gs r) captured)) h)) (fun sp=>ob (.fail "" none) (fun p=> .val p.1 p.2) (sp (lM first (lM (gs r) captured)) h)) (E.iW g)) _
   rw[ha]
   simp only[j3]
   cases hs:E.iW g with
   | none=>exact Bq (hle _ _ _).1 (hle _ _ _).2
   | some sp=>
     show Xm (ob (.fail "" none) (fun p=> .val p.1 p.2) (sp (first++gs r++captured) h)) _
     simp only
     cases sp (first++gs r++captured) h with
     | none=>trivial
     | some p=>rfl
 | cQ l=>
   have hc:callee E (fk F n r) ⟨.value x,a,t⟩=some (.vg l,gs r):=by
    simp only[callee,hf,hg,hv]
   rw[ec _ hc]
   simp only[j3]
   exact Bq (hle _ _ _).1 (hle _ _ _).2
 | _=>trivial
theorem Oj (x:Operand) (name:String) (a:Array Operand) (t:Array TypeId):gz E F n (.call ⟨.invoke x name,a,t⟩) (wO E F n x (fun gx=>wL E F n a.toList (fun gs=> .uk fun call r h _=>qR
 (fun t v=>ob (.fail "" none) (fun f=>mX (call (.fn f) (v::gs r) h)) (Ii E t name)) (.fail "" none) (gx r)) .bad) .bad):=by
 have nn:sN E (.call ⟨.invoke x name,a,t⟩):=⟨fun _=>rfl,fun _ _=>rfl,fun _=>rfl⟩
 let K:(F.T→AV)→(F.T→List AV)→Kd F.T:=fun gx gs=> .uk fun call r h _=>qR
  (fun t v=>ob (.fail "" none) (fun f=>mX (call (.fn f) (v::gs r) h)) (Ii E t name)) (.fail "" none) (gx r)
 show gz E F n _ (wO E F n x (fun gx=>wL E F n a.toList (fun gs=>K gx gs) .bad) .bad)
 rcases cg E F n x (fun gx=>wL E F n a.toList (fun gs=>K gx gs) .bad) .bad with h | ⟨gx,h,hx⟩<;>rw[h]
 · trivial
 rcases ua E F n a.toList (fun gs=>K gx gs) .bad with h | ⟨gs,h,hg⟩<;>rw[h]
 · trivial
 refine ⟨nn,fun fc call hle r h rc o ho=>?_⟩
 show Xm (qR _ _ (gx r)) _
 cases hv:gx r with
 | iface u v=>
   show Xm (ob (.fail "" none) (fun f=>mX (fc (.fn f) (v::gs r) h)) (Ii E u name)) _
   cases hm:Ii E u name with
   | none=>trivial
   | some f=>
     have Y1:v7 E u name=some f:=hm
     have ec:dp E call (fk F n r) h rc o=mX (call (.fn f) (v::gs r) h):=by
      simp only[dp,ho,hx,hg,hv,Y1]
      cases call (.fn f) (v::gs r) h<;>rfl
     rw[ec]
     exact Bq (hle _ _ _).1 (hle _ _ _).2
 | _=>trivial
theorem Q' (c:Call):gz E F n (.call c) (Xj E F n c (.call c)):=by
 obtain ⟨cJ,a,t⟩:=c
 cases cJ with
 | value x=>cases x with
   | func f=>exact Oi f a t
   | tmp x=>exact vA (.tmp x) (by simp) a t
   | const x=>exact vA (.const x) (by simp) a t
   | global x=>exact vA (.global x) (by simp) a t
 | invoke r m=>exact Oj r m a t
 | builtin b=>cases b with
   | append=>exact Oh a t
   | copy=>exact MI a t
   | recover=>exact KP a t
   | len=>exact YZ a t
   | cap=>exact Y0 a t
   | max=>exact fun r v e=>e
   | min=>exact fun r v e=>e
   | _=>trivial
theorem Iu (op:Op):gz E F n op (uO E F n op):=by
 cases op with
 | move x=>
   show gz E F n _ (wO E F n x .Hg .bad)
   rcases cg E F n x .Hg (.bad:Kd F.T) with h | ⟨g,h,hg⟩<;>rw[h]
   · trivial
   · exact hg
 | assign x=>
   show gz E F n _ (wO E F n x .Hg .bad)
   rcases cg E F n x .Hg (.bad:Kd F.T) with h | ⟨g,h,hg⟩<;>rw[h]
   · trivial
   · exact hg
 | pick c a b=>exact Vs c a b
 | binOp op t x y yt=>
   show gz E F n _ (wO E F n x (fun gx=>wO E F n y (fun gy=>cD op (kr E op t (isConst x) (isConst y)) gx gy) .bad) .bad)
   rcases cg E F n x (fun gx=>wO E F n y (fun gy=>cD op (kr E op t (isConst x) (isConst y)) gx gy) .bad) (.bad:Kd F.T) with h | ⟨gx,h,hx⟩<;>rw[h]
   · trivial
   rcases cg E F n y (fun gy=>cD op (kr E op t (isConst x) (isConst y)) gx gy) (.bad:Kd F.T) with h | ⟨gy,h,hy⟩<;>rw[h]
   · trivial
   exact Vq op t x y yt gx gy hx hy
 | unOp op t x=>
   show gz E F n _ (wO E F n x (unK op) .bad)
   rcases cg E F n x (unK op) (.bad:Kd F.T) with h | ⟨g,h,hg⟩<;>rw[h]
   · trivial
   exact YR op t x g hg
 | fieldAddr s x f=>exact FJ s x f
 | load t a=>exact Vr t a
 | store t a x=>exact Q4 t a x
 | nilCheck x=>exact Ip x
 | extract x i=>exact KN x i
 | field s x f=>exact Q1 s x f
 | indexAddr t x ix=>exact FK t x ix
 | index t x ix=>exact Q2 t x ix
 | slice t x lo hi mx=>cases mx with
   | none=>exact Q3 t x lo hi
   | some m=>exact fun r v e=>e
 | convert s d x=>exact KO s d x
 | makeInterface t x=>exact yG t x
 | makeFunc f a b=>cases f with
   | func f=>exact Ir f a b
   | _=>trivial
 | alloc t=>exact Q5 t
 | box t x=>exact YV t x
 | buildSlice t len parts=>exact C_ t len parts
 | makeSlice t l c=>exact FL t l c
 | makeMap t r=>cases r with
   | none=>exact ⟨fun _=>rfl,fun _ _=>rfl,fun r p e=>e⟩
   | some x=>exact ⟨fun _=>rfl,fun _ _=>rfl,fun r p e=>e⟩
 | range t x=>exact ⟨fun _=>rfl,fun _ _=>rfl,fun r p e=>e⟩
 | lookup t x ix ok=>exact Oe t x ix ok
 | build t parts=>exact Q7 t parts
 | typeAssert x a b ok=>exact fun r v e=>e
 | mapUpdate t m k x=>exact FM t m k x
 | insert t m k x=>exact Of t m k x
 | next it s=>exact Vu it s
 | panic x=>exact Q8 x
 | defer c=>exact Q9 c
 | call c=>exact Q' c
 | _=>trivial
end Go.Ab.Fa
end
section
namespace Go.Ab.Fa
variable {E:Env} {F:RF} {n:Nat}
def rV (_E:Env) (F:RF) (n:Nat) (o:FO F.T) (out:Out):Prop:=match o with
 | .Ie r h y=>out= .ok .normal ⟨fk F n r,h,y.ds,y.rc⟩
 | .jmp e r h y=>e≠ .normal∧out= .ok e ⟨fk F n r,h,y.ds,y.rc⟩
 | .bad=>True
theorem FN {call:bj} {s:St} {o:Oper} {v:AV} (h:bE E s.ts o.op=some v):EK E call s o= .ok .normal {s with ts:=dR s.ts o.dst v}:=by
 simp only[EK,h]
theorem Vx {call:bj} {s:St} {o:Oper} {v:AV} (h0:bE E s.ts o.op=none) (h:dW E s.ts s.h o.op=some v):EK E call s o= .ok .normal {s with ts:=dR s.ts o.dst v}:=by
 simp only[EK,h0,h]
theorem FP {call:bj} {s:St} {o:Oper} (nn:sN E o.op):EK E call s o=(match dp E call s.ts s.h s.rc o with
 | .val v h'=> .ok .normal {s with ts:=dR s.ts o.dst v,h:=h'}
 | .defer d=> .ok .normal {s with ts:=dR s.ts o.dst AV.undef,ds:=d::s.ds}
 | .rG v=> .ok .normal {s with ts:=dR s.ts o.dst v,rc:= .done}
 | .panic v h'=> .ok (.panic v) {s with h:=h'}
 | .fail why q=> .fail why q):=by
 simp only[EK,nn.1,nn.2.1,nn.2.2]
 generalize dp E call s.ts s.h s.rc o=x
 cases x<;>rfl
noncomputable def abz (E:Env) (call:bj) (ops:Array Oper) (rest:List Oper) (out:Out):Out:=match out with
 | .ok .normal s'=>kt E call ops rest s'
 | r=>r
theorem Vy {ops:Array Oper} {o:Oper} {rest:List Oper} {kd:Kd F.T} {s:AV→F.T→F.T} {j:I F.T} {fc call:bj} (hle:kC fc call) (hk:gz E F n o.op kd)
 (hs:∀v r,dR (fk F n r) o.dst v=fk F n (s v r)) (hj:∀r h y,rV E F n (j.run fc r h y) (kt E call ops rest ⟨fk F n r,h,y.ds,y.rc⟩)) (r:F.T) (h:aw) (y:Y):
 rV E F n ((KI kd s j).run fc r h y) (abz E call ops rest (EK E call ⟨fk F n r,h,y.ds,y.rc⟩ o)):=by
 cases kd with
 | Hg g=>
   rw[FN (s:=⟨fk F n r,h,y.ds,y.rc⟩) (hk r)]
   show rV E F n (j.run fc (s (g r) r) h y) (kt E call ops rest ⟨dR (fk F n r) o.dst (g r),h,y.ds,y.rc⟩)
   rw[hs];exact hj _ _ _
 | hJ f=>
   show rV E F n (ob .bad (fun v=>j.run fc (s v r) h y) (f r)) _
   cases hf:f r with
   | none=>trivial
   | some v=>
     rw[FN (s:=⟨fk F n r,h,y.ds,y.rc⟩) (hk r v hf)]
     show rV E F n (j.run fc (s v r) h y) (kt E call ops rest ⟨dR (fk F n r) o.dst v,h,y.ds,y.rc⟩)
     rw[hs];exact hj _ _ _
 | red f=>
   show rV E F n (ob .bad (fun v=>j.run fc (s v r) h y) (f r h)) _
   cases hf:f r h with
   | none=>trivial
   | some v=>
     rcases hk r h v hf with h0 | ⟨h0,h1⟩
     · rw[FN (s:=⟨fk F n r,h,y.ds,y.rc⟩) h0]
       show rV E F n (j.run fc (s v r) h y) (kt E call ops rest ⟨dR (fk F n r) o.dst v,h,y.ds,y.rc⟩)
       rw[hs];exact hj _ _ _
     rw[Vx (s:=⟨fk F n r,h,y.ds,y.rc⟩) h0 h1]
     show rV E F n (j.run fc (s v r) h y) (kt E call ops rest ⟨dR (fk F n r) o.dst v,h,y.ds,y.rc⟩)
     rw[hs];exact hj _ _ _
 | so f=>
   obtain ⟨h0,h1,h2⟩:=hk
   show rV E F n (ob .bad (fun p=>ob .bad (fun h'=>j.run fc (s (p.2 h.nx) r) h' y) (h.new p.1)) (f r)) _
   cases hf:f r with
   | none=>trivial
   | some p=>
     obtain ⟨obj,mk⟩:=p
     show rV E F n (ob .bad (fun h'=>j.run fc (s (mk h.nx) r) h' y) (h.new obj)) _
     cases hh:h.new obj with
     | none=>trivial
     | some h'=>
       have:EK E call ⟨fk F n r,h,y.ds,y.rc⟩ o= .ok .normal ⟨dR (fk F n r) o.dst (mk h.nx),h',y.ds,y.rc⟩:=by
        simp only[EK,h0,h1,h2 r _ hf,hh]
       rw[this,hs];exact hj _ _ _
 | wr f=>
   obtain ⟨nn,h1⟩:=hk
   show rV E F n (ob .bad (fun p=>j.run fc (s p.1 r) p.2 y) (f r h)) _
   cases hf:f r h with
   | none=>trivial
   | some p=>
     rw[FP nn,h1 call r h y.rc o p rfl hf]
     show rV E F n (j.run fc (s p.1 r) p.2 y) (kt E call ops rest ⟨dR (fk F n r) o.dst p.1,p.2,y.ds,y.rc⟩)
     rw[hs];exact hj _ _ _
 | call g args=>
   obtain ⟨nn,h1⟩:=hk
   rw[FP nn,h1 call r h y.rc o rfl]
   show rV E F n (ju.rec (motive:=fun _=>FO F.T) (fun v h'=>j.run fc (s v r) h' y) (fun v h'=> .jmp (.panic v) r h' y) (fun _ _=> .bad) (fc g (args r) h)) _
   cases hc:fc g (args r) h with
   | fail _ _=>trivial
   | ret v h'=>
     rw[(hle _ _ _).1 v h' hc]
     show rV E F n (j.run fc (s v r) h' y) (kt E call ops rest ⟨dR (fk F n r) o.dst v,h',y.ds,y.rc⟩)
     rw[hs];exact hj _ _ _
   | panic v h'=>
     rw[(hle _ _ _).2 v h' hc]
     exact ⟨by simp,rfl⟩
 | uk f=>
   obtain ⟨nn,h1⟩:=hk
   rw[FP nn]
   have h2:=h1 fc call hle r h y.rc o rfl
   show rV E F n (yb.rec (motive:=fun _=>FO F.T) (fun v h'=>j.run fc (s v r) h' y) (fun d=>j.run fc (s AV.undef r) h ⟨d::y.ds,y.rc⟩) (fun v=>j.run fc (s v r) h ⟨y.ds,.done⟩)
    (fun v h'=> .jmp (.panic v) r h' y) (fun _ _=> .bad) (f fc r h y.rc)) _
   cases he:f fc r h y.rc with
   | fail _ _=>trivial
   | val v h'=>
     rw[he] at h2
     have h2:dp E call (fk F n r) h y.rc o= .val v h':=h2
     rw[h2]
     show rV E F n (j.run fc (s v r) h' y) (kt E call ops rest ⟨dR (fk F n r) o.dst v,h',y.ds,y.rc⟩)
     rw[hs];exact hj _ _ _
   | defer d=>
     rw[he] at h2
     have h2:dp E call (fk F n r) h y.rc o= .defer d:=h2
     rw[h2]
     show rV E F n (j.run fc (s AV.undef r) h ⟨d::y.ds,y.rc⟩) (kt E call ops rest ⟨dR (fk F n r) o.dst AV.undef,h,d::y.ds,y.rc⟩)
     rw[hs];exact hj _ _ ⟨d::y.ds,y.rc⟩
   | rG v=>
     rw[he] at h2
     have h2:dp E call (fk F n r) h y.rc o= .rG v:=h2
     rw[h2]
     show rV E F n (j.run fc (s v r) h ⟨y.ds,.done⟩) (kt E call ops rest ⟨dR (fk F n r) o.dst v,h,y.ds,.done⟩)
     rw[hs];exact hj _ _ ⟨y.ds,.done⟩
   | panic v h'=>
     rw[he] at h2
     have h2:dp E call (fk F n r) h y.rc o= .panic v h':=h2
     rw[h2]
     exact ⟨by simp,rfl⟩
 | bad=>trivial
def yH (ts:List AV) (d:Nat) (want:Bool):Bool:=match ts[d]? with
 | some (.bool b)=>b==want
 | _=>false
theorem zt {ts:List AV} {d:Nat} (h:ts.length≤d) (want:Bool):yH ts d want=false:=by
 unfold yH;rw[List.getElem?_eq_none h]
theorem zu {ts:List AV} {d:Nat} {v:AV} (h:ts[d]? =some v) (want:Bool):yH ts d want=jF (fun b=>b==want) false v:=by
 unfold yH;rw[h];cases v<;>rfl
theorem wH (ops:Array Oper) (ts:List AV) (o:Oper) {j:Nat} {want:Bool} (hg:o.guard=some (j,want)):cF ops ts o=(match (ops[j]?).bind (·.dst) with
 | some d=>match ts[d]? with
   | some (.bool b)=>b==want
   | _=>false
 | none=>false):=by simp only[cF,hg];rfl
theorem Ra (ops:Array Oper) (j:Nat):ob none (fun p=>p.dst) (jn ops.toList j)=(ops[j]?).bind (·.dst):=by
 rw[hZ,Array.getElem?_toList];cases ops[j]? <;>rfl
theorem Rb (_hn:n≤F.N) (ops:Array Oper) (o:Oper) (a b:I F.T) (call:bj) (r:F.T) (h:aw) (y:Y):
 (Mt F n ops o a b).run call r h y=bif cF ops (fk F n r) o then a.run call r h y else b.run call r h y:=by
 unfold Mt
 cases hg:o.guard with
 | none=>simp only[cF,hg];rfl
 | some p=>
   obtain ⟨j,want⟩:=p
   rw[wH ops _ o hg]
   simp only[Ra]
   cases (ops[j]?).bind (·.dst) with
   | none=>rfl
   | some d=>
     show (bc (Nat.ble n d) b (KJ (F.get d).f want a b)).run call r h y=bif yH (fk F n r) d want then a.run call r h y else b.run call r h y
     cases hd:Nat.ble n d with
     | true=>
       rw[zt (by rw[ja];exact fM hd)];rfl
     | false=>
       rw[zu (tX F n r (kB hd)),dY]
       cases want with
       | true=>
         show jF (fun t=>bc t (a.run call r h y) (b.run call r h y)) (b.run call r h y) ((F.get d).f r)=_
         cases (F.get d).f r with
         | bool t=>cases t<;>rfl
         | _=>rfl
       | false=>
         show jF (fun t=>bc t (b.run call r h y) (a.run call r h y)) (b.run call r h y) ((F.get d).f r)=_
         cases (F.get d).f r with
         | bool t=>cases t<;>rfl
         | _=>rfl
theorem Iv (_hn:n≤F.N) (ops:Array Oper) (o:Oper) (a b:D F.T) (call:bj) (r:F.T) (h:aw) (y:Y):
 (zp F n ops o a b).run call r h y=bif cF ops (fk F n r) o then a.run call r h y else b.run call r h y:=by
 unfold zp
 cases hg:o.guard with
 | none=>simp only[cF,hg];rfl
 | some p=>
   obtain ⟨j,want⟩:=p
   rw[wH ops _ o hg]
   simp only[Ra]
   cases (ops[j]?).bind (·.dst) with
   | none=>rfl
   | some d=>
     show (bc (Nat.ble n d) b (QN (F.get d).f want a b)).run call r h y=bif yH (fk F n r) d want then a.run call r h y else b.run call r h y
     cases hd:Nat.ble n d with
     | true=>
       rw[zt (by rw[ja];exact fM hd)];rfl
     | false=>
       rw[zu (tX F n r (kB hd)),dY]
       cases want with
       | true=>
         show jF (fun t=>bc t (a.run call r h y) (b.run call r h y)) (b.run call r h y) ((F.get d).f r)=_
         cases (F.get d).f r with
         | bool t=>cases t<;>rfl
         | _=>rfl
       | false=>
         show jF (fun t=>bc t (b.run call r h y) (a.run call r h y)) (b.run call r h y) ((F.get d).f r)=_
         cases (F.get d).f r with
         | bool t=>cases t<;>rfl
         | _=>rfl
theorem Br (hn:n≤F.N) {fc call:bj} (hle:kC fc call) (ops:Array Oper):∀(l:List Oper) (r:F.T) (h:aw) (y:Y),
 rV E F n ((t_ E F n ops l).run fc r h y) (kt E call ops l ⟨fk F n r,h,y.ds,y.rc⟩)
 | [],r,h,y=>rfl
 | o::rest,r,h,y=>by
   have ih:=Br hn hle ops rest
   show rV E F n ((QL E F n ops o (t_ E F n ops rest)).run fc r h y) _
   unfold QL
   obtain ⟨s,h1,hs⟩:=MG F n hn o.dst (fun s=>Mt F n ops o (KI (uO E F n o.op) s (t_ E F n ops rest)) (Xk s (t_ E F n ops rest)))
   rw[h1,Rb hn]
   rw[kt]
   cases hw:cF ops (fk F n r) o with
   | true=>
     rw[if_pos rfl]
     exact Vy hle (Iu o.op) hs ih r h y
   | false=>
     rw[if_neg (by simp)]
     show rV E F n ((t_ E F n ops rest).run fc (s AV.undef r) h y) _
     simp only[hs]
     exact ih _ _ _
def madeOf:TK→Option Nat
 | .so n _=>some n
 | _=>none
theorem wI (x:Step) (t:List Step):qD (x::t)=match madeOf x.kind with | none=>qD t | some i=>i::qD t:=by
 show List.filterMap (fun x:Step=>madeOf x.kind) (x::t)=_
 rw[List.filterMap_cons];cases madeOf x.kind<;>rfl
inductive pw (E:Env) (ops:Array Oper) (pl:mD):List Oa→List Step→Prop
 | nil:pw E ops pl [] []
 | skip {x:Step} {c:List Oa} {t:List Step} (hs:∀h,jD E ops x h=true) (hm:madeOf x.kind=none) (ht:pw E ops pl c t):pw E ops pl c (x::t)
 | Vz {x:Step} {c0:Oa} {c:List Oa} {t:List Step} (hk:c0.k=x.k) (hl:c0.m=ku pl.bP pl.an x.i+1 - x.k) (hm:madeOf x.kind=c0.made)
  (hs:∀h,c0.f h=true→jD E ops x h=true) (ht:pw E ops pl c t):pw E ops pl (c0::c) (x::t)
theorem pw.made {ops:Array Oper} {pl:mD} {c:List Oa} {t:List Step} (h:pw E ops pl c t):Mx c=qD t:=by
 induction h with
 | nil=>rfl
 | skip hs hm ht ih=>rw[wI,hm];exact ih
 | Vz hk hl hm hs ht ih=>
   rename_i x c0 c t
   show ob (Mx c) (fun i=>i::Mx c) c0.made=_
   rw[wI,hm,ih]
   cases c0.made<;>rfl
theorem pw.all {ops:Array Oper} {pl:mD} {hs:List aw} {c:List Oa} {t:List Step} (h:pw E ops pl c t) (e:c.all (fun x=>yx x.f (sI (sH hs x.k) x.m))=true):
 t.all (fun x=>((hs.drop x.k).take (ku pl.bP pl.an x.i+1 - x.k)).all (jD E ops x))=true:=by
 induction h with
 | nil=>rfl
 | skip qI hm ht ih=>
   rw[List.all_cons,ih e,Bool.and_true,List.all_eq_true]
   intro h _;exact qI h
 | Vz hk hl hm qI ht ih=>
   rw[List.all_cons,Bool.and_eq_true] at e
   rw[List.all_cons,ih e.2,Bool.and_true,List.all_eq_true]
   have e1:=e.1
   rw[qS,qi,qh,List.all_eq_true,hk,hl] at e1
   intro h hh;exact qI h (e1 h hh)
theorem Bs {ops:Array Oper} {pl:mD} {hs:List aw} {c:List Oa} {t:List Step} (h:pw E ops pl c t) (e:qU c hs=true):qE E ops pl t hs=true:=by
 unfold qU at e
 rw[oE,Bool.and_eq_true,yB,qS,h.made] at e
 unfold qE
 rw[Bool.and_eq_true]
 exact ⟨e.1,h.all e.2⟩
def CY (E:Env) (F:RF) (n:Nat) (ops:Array Oper) (pl:mD) (d:DO F.T) (t:j4):Prop:=match d with
 | .ok tr hs r h y=>∃J4,t= .ok J4 hs ⟨fk F n r,h,y.ds,y.rc⟩∧pw E ops pl tr J4
 | .bad=>True
theorem CY.skip {ops:Array Oper} {pl:mD} {d:DO F.T} {t:j4} (h:CY E F n ops pl d t) {x:Step} (hs:∀h,jD E ops x h=true) (hm:madeOf x.kind=none):CY E F n ops pl d (t.step x):=by
 cases d with
 | bad=>trivial
 | ok tr qI r h' y=>
   obtain ⟨J4,rfl,h2⟩:=h
   exact ⟨x::J4,rfl,.skip hs hm h2⟩
theorem CY.bound {ops:Array Oper} {pl:mD} {d:DO F.T} {t:j4} (h:CY E F n ops pl d t) (h0:aw):CY E F n ops pl (qT h0 d) (t.bound h0):=by
 cases d with
 | bad=>trivial
 | ok tr qI r h' y=>
   obtain ⟨J4,rfl,h2⟩:=h
   exact ⟨J4,rfl,h2⟩
theorem CY.Vz {ops:Array Oper} {pl:mD} {d:DO F.T} {t:j4} (h:CY E F n ops pl d t) {x:Step} {c:Oa} (hk:c.k=x.k) (hl:c.m=ku pl.bP pl.an x.i+1 - x.k)
 (hm:madeOf x.kind=c.made) (hs:∀h,c.f h=true→jD E ops x h=true):CY E F n ops pl (DQ c d) (t.step x):=by
 cases d with
 | bad=>trivial
 | ok tr qI r h' y=>
   obtain ⟨J4,rfl,h2⟩:=h
   exact ⟨x::J4,rfl,.Vz hk hl hm hs h2⟩
theorem Iw:∀(m:Nat) (x y:AV),Bk m x y=true→AV.same m x y=true
 | 0,_,_,e=>by cases e
 | m+1,x,y,e=>by
   have ih:=Iw m
   have all:∀(a b:List AV),leq (Bk m) a b=true→dQ (AV.same m) a b=true:=by
    intro a
    induction a with
    | nil=>intro b;cases b<;>intro e<;>first | rfl | cases e
    | cons x tl ihl=>
      intro b
      cases b with
      | nil=>intro e;cases e
      | cons y tm=>
        intro e
        have e:bc (Bk m x y) (leq (Bk m) tl tm) false=true:=e
        rw[oE,Bool.and_eq_true] at e
        rw[dQ,Bool.and_eq_true]
        exact ⟨ih _ _ e.1,ihl _ e.2⟩
   cases x with
   | int k a=>cases y with
     | int j b=>
       have e:bc (Qx k j) (Xf a b) false=true:=e
       rw[oE,Bool.and_eq_true,KL] at e
       rw[AV.same,MB e.1,e.2];simp
     | _=>cases e
   | str a=>cases y with
     | str b=>
       have e:leq Be a b=true:=e
       rw[KM] at e
       rw[AV.same];exact e
     | _=>cases e
   | ptr i o=>cases y with
     | ptr j p=>
       have e:bc (Nat.beq i j) (Nat.beq o p) false=true:=e
       rw[oE,Bool.and_eq_true] at e
       rw[AV.same,mF e.1,mF e.2];simp
     | _=>cases e
   | bool a=>cases y with
     | bool b=>
       have e:bc a b (vy b)=true:=e
       rw[AV.same]
       cases a<;>cases b<;>first | rfl | cases e
     | _=>cases e
   | agg a=>cases y with
     | agg b=>rw[AV.same];exact all a b e
     | _=>cases e
   | _=>exact e
theorem Bt (hn:n≤F.N) {fc call:bj} (hle:kC fc call) (ops:Array Oper) (pl:mD):∀(l:List Nat) (k:Nat) (r:F.T) (h:aw) (y:Y),
 CY E F n ops pl ((jy E F n ops pl l k).run fc r h y) (cW E call ops l k ⟨fk F n r,h,y.ds,y.rc⟩)
 | [],k,r,h,y=>⟨[],rfl,.nil⟩
 | i::rest,k,r,h,y=>by
   have ih:=Bt hn hle ops pl rest
   rw[cW]
   show CY E F n ops pl (D.run (ob ⟨fun _ _ _ _=> .bad⟩ (fun o=>wS F n o.dst fun s=>
    bc (qf E o.op) (canon (k+1) fun k'=>zp F n ops o (Mu (uO E F n o.op) s (jy E F n ops pl rest k')) (KK s (jy E F n ops pl rest k')))
     (canon (AB pl.bP pl.an i+1 - k) fun m=>zp F n ops o (Mv k m (uO E F n o.op) s (jy E F n ops pl rest k)) (QM s (jy E F n ops pl rest k)))) (jn ops.toList i)) fc r h y) _
   rw[hZ,Array.getElem?_toList]
   cases ho:ops[i]? with
   | none=>trivial
   | some o=>
     have gZ:(ops.getD i default).op=o.op:=by rw[Array.getD_eq_getD_getElem?,ho];rfl
     simp only[Ve,lN,sL,KE]
     obtain ⟨s,h1,hs⟩:=MG F n hn o.dst (fun s=>
      bc (fI E o.op) (zp F n ops o (Mu (uO E F n o.op) s (jy E F n ops pl rest (k+1))) (KK s (jy E F n ops pl rest (k+1))))
      (zp F n ops o (Mv k (ku pl.bP pl.an i+1 - k) (uO E F n o.op) s (jy E F n ops pl rest k)) (QM s (jy E F n ops pl rest k))))
     rw[h1]
     have hk:=Iu (E:=E) (F:=F) (n:=n) o.op
     generalize uO E F n o.op=kd at hk
     cases he:fI E o.op with
     | true=>
       rw[jz,Iv hn,if_pos rfl]
       cases hw:cF ops (fk F n r) o with
       | false=>
         rw[if_neg (by simp)]
         show CY E F n ops pl (qT h ((jy E F n ops pl rest (k+1)).run fc (s AV.undef r) h y)) _
         simp only[hs]
         exact ((ih _ _ _ _).bound h).skip (fun _=>rfl) rfl
       | true=>
         rw[if_pos rfl]
         show CY E F n ops pl ((Mu kd s (jy E F n ops pl rest (k+1))).run fc r h y) _
         cases kd with
         | wr f=>
           show CY E F n ops pl (ob .bad (fun p=>qT h ((jy E F n ops pl rest (k+1)).run fc (s p.1 r) p.2 y)) (f r h)) _
           cases hf:f r h with
           | none=>trivial
           | some p=>
             simp only[hk.2 call r h y.rc o p rfl hf,hs]
             exact ((ih _ _ _ _).bound h).skip (fun _=>rfl) rfl
         | call g args=>
           show CY E F n ops pl (ju.rec (motive:=fun _=>DO F.T) (fun v h'=>qT h ((jy E F n ops pl rest (k+1)).run fc (s v r) h' y)) (fun _ _=> .bad) (fun _ _=> .bad) (fc g (args r) h)) _
           cases hc:fc g (args r) h with
           | fail _ _=>trivial
           | panic _ _=>trivial
           | ret v h'=>
             simp only[hk.2 call r h y.rc o rfl,(hle _ _ _).1 v h' hc,mX,hs]
             exact ((ih _ _ _ _).bound h).skip (fun _=>rfl) rfl
         | uk f=>
           show CY E F n ops pl (yb.rec (motive:=fun _=>DO F.T) (fun v h'=>qT h ((jy E F n ops pl rest (k+1)).run fc (s v r) h' y)) (fun _=> .bad) (fun _=> .bad) (fun _ _=> .bad) (fun _ _=> .bad) (f fc r h y.rc)) _
           have h2:=hk.2 fc call hle r h y.rc o rfl
           cases hf:f fc r h y.rc with
           | val v h'=>
             rw[hf] at h2
             have h2:dp E call (fk F n r) h y.rc o= .val v h':=h2
             simp only[h2,hs]
             exact ((ih _ _ _ _).bound h).skip (fun _=>rfl) rfl
           | _=>trivial
         | _=>trivial
     | false=>
       rw[dY,Iv hn,if_neg (by simp)]
       cases hw:cF ops (fk F n r) o with
       | false=>
         rw[if_neg (by simp)]
         show CY E F n ops pl ((jy E F n ops pl rest k).run fc (s AV.undef r) h y) _
         simp only[hs]
         exact (ih _ _ _ _).skip (fun _=>rfl) rfl
       | true=>
         rw[if_pos rfl]
         show CY E F n ops pl ((Mv k (ku pl.bP pl.an i+1 - k) kd s (jy E F n ops pl rest k)).run fc r h y) _
         cases kd with
         | Hg g=>
           simp only[hk r,hs]
           exact (ih _ _ _ _).skip (fun _=>rfl) rfl
         | hJ f=>
           show CY E F n ops pl (ob .bad (fun v=>(jy E F n ops pl rest k).run fc (s v r) h y) (f r)) _
           cases hf:f r with
           | none=>trivial
           | some v=>
             simp only[hk r v hf,hs]
             exact (ih _ _ _ _).skip (fun _=>rfl) rfl
         | red f=>
           show CY E F n ops pl (ob .bad (fun v=>DQ ⟨k,_,none,fun h'=>ob false (fun v'=>Bk 20 v' v) (f r h')⟩ ((jy E F n ops pl rest k).run fc (s v r) h y)) (f r h)) _
           cases hf:f r h with
           | none=>trivial
           | some v=>
             rcases hk r h v hf with q0 | ⟨q0,q1⟩
             · simp only[q0,hs]
               exact (ih _ _ _ _).Vz rfl rfl rfl fun h' _=>rfl
             simp only[q0,q1,hs]
             refine (ih _ _ _ _).Vz rfl rfl rfl fun h' e=>?_
             have e:ob false (fun v'=>Bk 20 v' v) (f r h')=true:=e
             cases Y2:f r h' with
             | none=>rw[Y2] at e;cases e
             | some v'=>
               rw[Y2] at e
               rcases hk r h' v' Y2 with q2 | ⟨_,q3⟩
               · rw[q0] at q2;cases q2
               simp only[jD,gZ,q3]
               exact Iw 20 v' v e
         | so f=>
           obtain ⟨h3,h4,h5⟩:=hk
           show CY E F n ops pl (ob .bad (fun p=>ob .bad (fun h'=>DQ ⟨k,_,some h.nx,fun Mw=>ob false (fun o=>aY.same o p.1) (Mw.get h.nx)⟩ ((jy E F n ops pl rest k).run fc (s (p.2 h.nx) r) h' y)) (h.new p.1)) (f r)) _
           cases hf:f r with
           | none=>trivial
           | some p=>
             obtain ⟨obj,mk⟩:=p
             show CY E F n ops pl (ob .bad (fun h'=>DQ ⟨k,_,some h.nx,fun Mw=>ob false (fun o=>aY.same o obj) (Mw.get h.nx)⟩ ((jy E F n ops pl rest k).run fc (s (mk h.nx) r) h' y)) (h.new obj)) _
             cases hh:h.new obj with
             | none=>trivial
             | some h'=>
               simp only[h3,h4,h5 r _ hf,hh,hs]
               refine (ih _ _ _ _).Vz rfl rfl rfl fun Mw e=>?_
               have e:ob false (fun o=>aY.same o obj) (Mw.get h.nx)=true:=e
               cases Y2:Mw.get h.nx with
               | none=>rw[Y2] at e;cases e
               | some o'=>
                 rw[Y2] at e
                 simp only[jD,Y2]
                 exact e
         | _=>trivial
theorem Rc {fc call:bj} (hle:kC fc call) {ts:List AV} {h h':aw} {rc:RC} {dst:Option Tmp} {c:Call} {ty:TypeId} {pos:String} {after:Array Edge} {guard:Option (Nat×Bool)} {v:AV} (e:dp E fc ts h rc ⟨dst,.call c,ty,pos,after,guard⟩= .panic v h'):
 dp E call ts h rc ⟨dst,.call c,ty,pos,after,guard⟩= .panic v h':=by
 obtain ⟨cJ,args,aT⟩:=c
 cases cJ with
 | builtin b=>
   cases b<;>simp only[dp] at e<;>(try (simp at e;done))<;>(split at e<;>(try (simp at e;done))<;>(try (split at e<;>simp at e)))
 | value f=>
   simp only[dp] at e ⊢
   split at e
   · split at e
     · split at e<;>simp at e
     · split at e
       · simp at e
       · rename_i hc
         simp at e;obtain ⟨rfl,rfl⟩:=e
         simp only[(hle _ _ _).2 _ _ hc]
       · simp at e
   · simp at e
 | invoke x name=>
   simp only[dp] at e ⊢
   split at e
   · split at e
     · split at e
       · simp at e
       · rename_i hc
         simp at e;obtain ⟨rfl,rfl⟩:=e
         simp only[(hle _ _ _).2 _ _ hc]
       · simp at e
     · simp at e
   · simp at e
theorem pw.snoc {ops:Array Oper} {pl:mD} {c:List Oa} {t:List Step} (h:pw E ops pl c t) {x:Step} (hs:∀h,jD E ops x h=true) (hm:madeOf x.kind=none):pw E ops pl c (t++[x]):=by
 induction h with
 | nil=>exact .skip hs hm .nil
 | skip a b _ ih=>exact .skip a b ih
 | Vz a b d e _ ih=>exact .Vz a b d e ih
theorem VA (hn:n≤F.N) {fc call:bj} (hle:kC fc call) (ops:Array Oper) (pl:mD) (r:F.T) (h:aw) (y:Y):
 rV E F n (Vc E F n ops pl fc r h y) (match cW E call ops pl.order 0 ⟨fk F n r,h,y.ds,y.rc⟩ with
  | .ok tr hs s'=>if qE E ops pl tr hs then .ok .normal s' else .fail "still" (ops[0]?)
  | .fail why o=>match AP E call ops ⟨fk F n r,h,y.ds,y.rc⟩ pl with
    | some (v,s2)=> .ok (.panic v) s2
    | none=> .fail why o):=by
 unfold Vc
 split
 · trivial
 rename_i i front US
 split
 · rename_i tr hs r1 h1 y1 dst c ty pos after guard hd ho
   split
   · rename_i v h' EY Qg
     split
     · rename_i hl
       have hk:=Bt (E:=E) hn hle ops pl front.reverse 0 r h y
       rw[hd] at hk
       obtain ⟨J4,e1,e2⟩:=hk
       have Qc:pl.order=front.reverse++[i]:=by
        have:=congrArg List.reverse US
        simpa using this
       have abA:=Rc hle Qg
       have NU:=EY
       simp only[Bool.and_eq_true] at NU
       obtain ⟨why,q,e3⟩:=yq ho NU.1.1 front.reverse 0 _ e1 NU.1.2 abA
       rw[Qc,e3]
       have Qh:AP E call ops ⟨fk F n r,h,y.ds,y.rc⟩ pl=some (v,⟨fk F n r1,h',y1.ds,y1.rc⟩):=by
        unfold AP
        rw[US]
        simp only[e1,ho,EY,if_true,abA]
        rw[if_pos (Bs (e2.snoc (fun _=>rfl) rfl) hl)]
       simp only[Qh]
       exact ⟨by simp,rfl⟩
     · trivial
   · trivial
 · trivial
theorem Re (hn:n≤F.N) {fc call:bj} (hle:kC fc call) (ops:Array Oper) (r:F.T) (h:aw) (y:Y):
 rV E F n ((My E F n ops).run fc r h y) (v8 E call ops ⟨fk F n r,h,y.ds,y.rc⟩):=by
 unfold My v8
 rw[QG]
 cases sj E ops with
 | none=>trivial
 | some pl=>
   show rV E F n (DO.rec (motive:=fun _=>FO F.T) (fun tr hs r' h' y'=>bc (qU tr hs) (.Ie r' h' y') .bad) (Vc E F n ops pl fc r h y) ((jy E F n ops pl pl.order 0).run fc r h y)) _
   have:=Bt (E:=E) hn hle ops pl pl.order 0 r h y
   cases hd:(jy E F n ops pl pl.order 0).run fc r h y with
   | bad=>exact VA hn hle ops pl r h y
   | ok tr hs r' h' y'=>
     rw[hd] at this
     obtain ⟨J4,h1,h2⟩:=this
     show rV E F n (bc (qU tr hs) (.Ie r' h' y') .bad) _
     cases hl:qU tr hs with
     | false=>trivial
     | true=>
       simp only[h1]
       rw[if_pos (Bs h2 hl)]
       rfl
end Go.Ab.Fa
end
section
namespace Go.Ab.Fa
variable {E:Env} {F:RF} {n:Nat}
theorem Ix {fc call:bj} (hle:kC fc call) {f:Operand} {ps:Array Tmp} {as_ bd:Code} {s:St} {e:iC} {s':St} (h:lO E fc f ps as_ bd s= .ok e s'):lO E call f ps as_ bd s= .ok e s':=by
 unfold lO at h ⊢
 split at h
 case h_2=>cases h
 rename_i g first captured hv
 split at h
 case h_2=>cases h
 rename_i dn h1 Ye ho
 split at h
 case h_2=>cases h
 rename_i h2 hn
 cases hc:fc (.fn g) (first++[.cQ h1.nx]++captured) h2 with
 | ret v h3=>rw[hc] at h;rw[(hle _ _ _).1 _ _ hc];exact h
 | panic v h3=>rw[hc] at h;rw[(hle _ _ _).2 _ _ hc];exact h
 | fail why q=>rw[hc] at h;cases h
theorem Ol {call:bj} {f:Operand} {ps:Array Tmp} {as_ bd:Code} {s:St} {e:iC} {s':St} (h:lO E call f ps as_ bd s= .ok e s'):s'.ts=s.ts:=by
 unfold lO at h
 split at h
 case h_2=>cases h
 split at h
 case h_2=>cases h
 split at h
 case h_2=>cases h
 split at h
 · split at h
   · cases h
   · split at h
     · simp only[Out.ok.injEq] at h;rw[←h.2]
     · cases h
   · cases h
 · simp only[Out.ok.injEq] at h;rw[←h.2]
 · cases h
theorem Rf {o:FO F.T} {out:Out} (h:rV E F n o out) {k:F.T→aw→Y→FO F.T} {g:St→Out} (hk:∀r h y,rV E F n (k r h y) (g ⟨fk F n r,h,y.ds,y.rc⟩)):
 rV E F n (fo k .jmp .bad o) (match (generalizing:=false) out with | .ok .normal s'=>g s' | r=>r):=by
 cases o with
 | Ie r h' y=>rw[show out=_ from h];exact hk r h' y
 | jmp e r h' y=>
   obtain ⟨h1,h2⟩:=h
   rw[h2]
   cases e with
   | normal=>exact absurd rfl h1
   | _=>exact ⟨by simp,rfl⟩
 | bad=>trivial
theorem lU (hn:n≤F.N) {fc call:bj} (hle:kC fc call):∀(c:Code) (m:Nat) (r:F.T) (h:aw) (y:Y),
 rV E F n ((mY E F n c).run m fc r h y) (exec E call m c ⟨fk F n r,h,y.ds,y.rc⟩)
 | .skip,m,r,h,y=>by cases m with
   | zero=>trivial
   | succ m=>exact rfl
 | .label _,m,r,h,y=>by cases m with
   | zero=>trivial
   | succ m=>exact rfl
 | .ret,m,r,h,y=>by cases m with
   | zero=>trivial
   | succ m=>exact ⟨by simp,rfl⟩
 | .exit id,m,r,h,y=>by cases m with
   | zero=>trivial
   | succ m=>exact ⟨by simp,rfl⟩
 | .region _ ops draw,m,r,h,y=>by
   cases m with
   | zero=>cases draw<;>trivial
   | succ m=>cases draw with
     | true=>exact Re hn hle ops r h y
     | false=>exact Br hn hle ops ops.toList r h y
 | .seq a b,m,r,h,y=>by cases m with
   | zero=>trivial
   | succ m=>
     have h1:=lU hn hle a m r h y
     have h2:=lU hn hle b m
     exact Rf h1 (g:=fun s'=>exec E call m b s') h2
 | .cond x a b,m,r,h,y=>by
   have ha:=lU hn hle a
   have hb:=lU hn hle b
   show rV E F n (C.run (wO E F n x (fun g=>⟨fun m call r h y=>nS .bad (fun i=>jF (fun t=>bc t ((mY E F n a).run i call r h y) ((mY E F n b).run i call r h y)) .bad (g r)) m⟩) ⟨fun _ _ _ _ _=> .bad⟩) m fc r h y) _
   rcases cg E F n x (fun g=>(⟨fun m call r h y=>nS .bad (fun i=>jF (fun t=>bc t ((mY E F n a).run i call r h y) ((mY E F n b).run i call r h y)) .bad (g r)) m⟩:C F.T)) ⟨fun _ _ _ _ _=> .bad⟩ with hw | ⟨g,hw,hg⟩<;>rw[hw]
   · trivial
   cases m with
   | zero=>trivial
   | succ m=>
     show rV E F n (jF (fun t=>bc t ((mY E F n a).run m fc r h y) ((mY E F n b).run m fc r h y)) .bad (g r)) _
     rw[exec]
     simp only[hg]
     cases g r with
     | bool t=>cases t with
       | true=>exact ha m r h y
       | false=>exact hb m r h y
     | _=>trivial
 | .block id b,m,r,h,y=>by cases m with
   | zero=>trivial
   | succ m=>
     have hb:=lU hn hle b m r h y
     show rV E F n (fo .Ie (fun e r' h' y'=>QO (fun j=>bc (Nat.beq j id) (.Ie r' h' y') (.jmp e r' h' y')) (.jmp e r' h' y') e) .bad ((mY E F n b).run m fc r h y)) _
     rw[exec]
     cases hr:(mY E F n b).run m fc r h y with
     | bad=>trivial
     | Ie r' h' y'=>
       rw[hr] at hb
       have hb:exec E call m b _= .ok .normal ⟨fk F n r',h',y'.ds,y'.rc⟩:=hb
       rw[hb];exact rfl
     | jmp e r' h' y'=>
       rw[hr] at hb
       obtain ⟨h1,h2⟩:=hb
       rw[h2]
       cases e with
       | normal=>exact absurd rfl h1
       | exit j=>
         show rV E F n (bc (Nat.beq j id) (.Ie r' h' y') (.jmp (.exit j) r' h' y')) (if j=id then _ else _)
         cases hj:Nat.beq j id with
         | true=>rw[if_pos (mF hj)];exact rfl
         | false=>rw[if_neg (by intro e;rw[e,Nat.beq_refl] at hj;cases hj)];exact ⟨by simp,rfl⟩
       | ret=>exact ⟨by simp,rfl⟩
       | panic v=>exact ⟨by simp,rfl⟩
 | .loop b,m,r,h,y=>by
   have hb:=lU hn hle b
   show rV E F n (QP (mY E F n b) m fc r h y) _
   induction m generalizing r h y with
   | zero=>trivial
   | succ m ih=>
     show rV E F n (fo (fun r' h' y'=>QP (mY E F n b) m fc r' h' y') .jmp .bad ((mY E F n b).run m fc r h y)) _
     exact Rf (hb m r h y) (g:=fun s'=>exec E call m (.loop b) s') ih
 | .rangeFunc f ps as_ bd,m,r,h,y=>by
   show rV E F n ((Vd (FE E F n f ps as_ bd)).run m fc r h y) _
   cases m with
   | zero=>trivial
   | succ m=>
     show rV E F n ((FE E F n f ps as_ bd).run fc r h y) (lO E call f ps as_ bd ⟨fk F n r,h,y.ds,y.rc⟩)
     unfold FE
     rcases cg E F n f (fun _=>(⟨fun call r h y=>Xl r (lO E call f ps as_ bd ⟨fk F n r,h,y.ds,y.rc⟩)⟩:I F.T)) ⟨fun _ _ _ _=> .bad⟩ with hw | ⟨g,hw,_⟩<;>rw[hw]
     · trivial
     simp only
     cases hr:lO E fc f ps as_ bd ⟨fk F n r,h,y.ds,y.rc⟩ with
     | fail _ _=>trivial
     | ok e s=>
       rw[Ix hle hr]
       have ht:=Ol hr
       obtain ⟨ts,hh,ds,rc⟩:=s
       simp only at ht
       subst ht
       cases e with
       | normal=>exact rfl
       | _=>exact ⟨by simp,rfl⟩
 | .scope b,m,r,h,y=>by cases m with
   | zero=>trivial
   | succ m=>exact lU hn hle b m r h y
 | .goto _,m,r,h,y=>trivial
 | .refuse _,m,r,h,y=>trivial
theorem wJ:∀(l:List ResultVar) (r:F.T) (h:aw) (vs:List AV),(yD E F n l).f r h=some vs→j5 E h (fk F n r) l=some vs
 | [],r,h,vs,e=>e
 | .tmp t::rest,r,h,vs,e=>by
   rw[yD] at e
   obtain ⟨g,h1,h2⟩:=FI F n t (fun g=>wW (yD E F n rest) fun k=>(⟨fun r h=>ob none (fun vs=>some (g r::vs)) (k r h)⟩:W (F.T→aw→Option (List AV))))
   rw[h1] at e
   obtain ⟨qJ,h3,h4⟩:=hB (show ob none (fun vs=>some (g r::vs)) ((yD E F n rest).f r h)=some vs from e)
   rw[j5]
   simp only[h2,wJ rest r h qJ h3]
   exact h4
 | .cell a t::rest,r,h,vs,e=>by
   rw[yD] at e
   obtain ⟨g,h1,h2⟩:=FI F n a (fun g=>wW (yD E F n rest) fun k=>(⟨fun r h=>ob none (fun v=>ob none (fun vs=>some (v::vs)) (k r h)) (bA E h t (g r))⟩:W (F.T→aw→Option (List AV))))
   rw[h1] at e
   obtain ⟨v,h3,h4⟩:=hB (show ob none (fun v=>ob none (fun vs=>some (v::vs)) ((yD E F n rest).f r h)) (bA E h t (g r))=some vs from e)
   obtain ⟨qJ,h5,h6⟩:=hB h4
   rw[j5]
   simp only[h2,h3,wJ rest r h qJ h5]
   exact h6
def BOk (E:Env) (rs:List ResultVar) (b:BO) (out:Out):Prop:=match b with
 | .fin res h y=>∃e ts,(e= .normal∨e= .ret)∧out= .ok e ⟨ts,h,y.ds,y.rc⟩∧∀h' vs,res h'=some vs→j5 E h' ts rs=some vs
 | .pan v res h y=>∃ts,out= .ok (.panic v) ⟨ts,h,y.ds,y.rc⟩∧∀h' vs,res h'=some vs→j5 E h' ts rs=some vs
 | .bad=>True
theorem Iy {fc call:bj} (hle:kC fc call) (F:RF) (fn:Func) (hn:fn.ntmps≤F.N) (b:Code) (fuel:Nat) (args:List AV) (h:aw) (rc:RC):
 BOk E fn.results.toList ((QR E F fn.ntmps fn b).run fuel fc args h rc) (mU E call fuel fn b args h rc):=by
 show BOk E _ (bc (Nat.ble (jm args) fn.ntmps)
  (fo (fun r h' y=> .fin ((yD E F fn.ntmps fn.results.toList).f r) h' y) (fun e r h' y=>iC.rec (motive:=fun _=>BO) .bad (fun _=> .bad) (.fin ((yD E F fn.ntmps fn.results.toList).f r) h' y) (fun v=> .pan v ((yD E F fn.ntmps fn.results.toList).f r) h' y) e) .bad
   ((mY E F fn.ntmps b).run fuel fc (Pn F args F.z 0) h ⟨[],rc⟩)) .bad) _
 cases hl:Nat.ble (jm args) fn.ntmps with
 | false=>trivial
 | true=>
   have hl:=fM hl
   rw[fU] at hl
   have:=lU (E:=E) hn hle b fuel (Pn F args F.z 0) h ⟨[],rc⟩
   rw[Mm F fn.ntmps hn args hl] at this
   rw[jz]
   unfold mU
   cases hr:(mY E F fn.ntmps b).run fuel fc (Pn F args F.z 0) h ⟨[],rc⟩ with
   | bad=>trivial
   | Ie r h' y=>
     rw[hr] at this
     exact ⟨.normal,_,.inl rfl,this,fun Mw vs e=>wJ _ r Mw vs e⟩
   | jmp e r h' y=>
     rw[hr] at this
     obtain ⟨h1,h2⟩:=this
     cases e with
     | normal=>exact absurd rfl h1
     | exit _=>trivial
     | ret=>exact ⟨.ret,_,.inr rfl,h2,fun Mw vs e=>wJ _ r Mw vs e⟩
     | panic v=>exact ⟨_,h2,fun Mw vs e=>wJ _ r Mw vs e⟩
theorem Iz {fc call:bj} (hle:kC fc call) (f:FuncId) (fuel:Nat) (args:List AV) (h:aw) (rc:RC):
 (zq E f).run fuel fc args h rc= .bad∨∃fn b,E.P.funcs[f]? =some fn∧fn.body=some b∧BOk E fn.results.toList ((zq E f).run fuel fc args h rc) (mU E call fuel fn b args h rc):=by
 unfold zq
 rw[U7]
 cases hf:E.P.funcs[f]? with
 | none=>exact .inl rfl
 | some fn=>
   simp only
   cases hb:fn.body with
   | none=>exact .inl rfl
   | some b=>
     refine .inr ⟨fn,b,rfl,hb,?_⟩
     simp only
     cases h1:Nat.ble fn.ntmps 64 with
     | true=>exact Iy hle rf2 fn (fM h1) b fuel args h rc
     | false=>cases h2:Nat.ble fn.ntmps 512 with
       | true=>exact Iy hle rf3 fn (fM h2) b fuel args h rc
       | false=>trivial
theorem sO {fc call:bj} (hle:kC fc call) {fuel:Nat} {c:Code} {s:St} {e:iC} {s':St} (h:MA E fc fuel c s= .ok e s'):exec E call fuel c s= .ok e s':=by
 have key:∀F:RF,s.ts.length≤F.N→Mz E F fc fuel c s= .ok e s'→exec E call fuel c s= .ok e s':=by
  intro F hn hx
  have:=lU (E:=E) hn hle c fuel (Pn F s.ts F.z 0) s.h ⟨s.ds,s.rc⟩
  rw[Mm F s.ts.length hn s.ts (Nat.le_refl _),Nat.sub_self,List.replicate_zero,List.append_nil] at this
  unfold Mz at hx
  cases hr:(mY E F s.ts.length c).run fuel fc (Pn F s.ts F.z 0) s.h ⟨s.ds,s.rc⟩ with
  | bad=>rw[hr] at hx;cases hx
  | Ie r h' y=>rw[hr] at hx this;rw[show exec E call fuel c s=_ from this];exact hx
  | jmp e' r h' y=>rw[hr] at hx this;rw[show exec E call fuel c s=_ from this.2];exact hx
 unfold MA at h
 cases h1:Nat.ble s.ts.length 64 with
 | true=>rw[h1] at h;exact key rf2 (fM h1) h
 | false=>cases h2:Nat.ble s.ts.length 512 with
   | true=>rw[h1,h2] at h;exact key rf3 (fM h2) h
   | false=>rw[h1,h2] at h;cases h
noncomputable def FQ (E:Env) (call:bj) (fuel:Nat) (g:FuncId) (as_:List AV) (h:aw) (rc:RC):Option (aw×RC):=match E.P.funcs[g]? with
 | none=>none
 | some fg=>match fg.body with
   | none=>none
   | some bg=>match mU E call fuel fg bg as_ h rc with
     | .ok .normal s'=>if s'.ds.isEmpty&&(j5 E s'.h s'.ts fg.results.toList).isSome then some (s'.h,s'.rc) else none
     | .ok .ret s'=>if s'.ds.isEmpty&&(j5 E s'.h s'.ts fg.results.toList).isSome then some (s'.h,s'.rc) else none
     | _=>none
theorem Rg {fc call:bj} (hle:kC fc call) {fuel:Nat} {g:FuncId} {as_:List AV} {h:aw} {rc:RC} {p:aw×RC} (e:iD E fc fuel g as_ h rc=some p):FQ E call fuel g as_ h rc=some p:=by
 unfold iD at e
 rcases Iz (E:=E) hle g fuel as_ h rc with h1 | ⟨fn,b,h1,h2,h3⟩
 · rw[h1] at e;cases e
 · unfold FQ
   rw[h1];simp only;rw[h2];simp only
   cases hr:(zq E g).run fuel fc as_ h rc with
   | bad=>rw[hr] at e;cases e
   | pan v res h' y=>rw[hr] at e;cases e
   | fin res h' y=>
     rw[hr] at e h3
     obtain ⟨x,ts,h4,h5,h6⟩:=h3
     obtain ⟨h7,e1⟩:=fL (show bc y.ds.isEmpty (ob none (fun _=>some (h',y.rc)) (res h')) none=some p from e)
     obtain ⟨vs,h8,e2⟩:=hB e1
     rw[h5]
     rcases h4 with rfl | rfl
     · simp only[h7,h6 h' vs h8,Option.isSome_some,Bool.and_self,if_true];exact e2
     · simp only[h7,h6 h' vs h8,Option.isSome_some,Bool.and_self,if_true];exact e2
theorem lV {f g:FuncId→List AV→aw→RC→Option (aw×RC)} (hfg:∀k as_ h rc p,f k as_ h rc=some p→g k as_ h rc=some p):∀(ds:List oh) (p:Option AV) (h:aw) {q:Option AV×aw},cO f ds p h=some q→cO g ds p h=some q
 | [],p,h,q,e=>by cases p<;>exact e
 | .rQ r::ds,p,h,q,e=>by
   rw[cO] at e ⊢
   split at e
   · exact lV hfg ds p _ e
   · cases e
 | .call k as_::ds,none,h,q,e=>by
   rw[cO] at e ⊢
   cases hf:f k as_ h .no with
   | none=>rw[hf] at e;cases e
   | some p=>rw[hf] at e;rw[hfg _ _ _ _ _ hf];obtain ⟨h',UW⟩:=p;exact lV hfg ds none h' e
 | .call k as_::ds,some v,h,q,e=>by
   rw[cO] at e ⊢
   cases hf:f k as_ h (.iy v) with
   | none=>rw[hf] at e;cases e
   | some p=>
     rw[hf] at e;rw[hfg _ _ _ _ _ hf];obtain ⟨h',UW⟩:=p
     cases UW with
     | iy w=>exact lV hfg ds _ h' e
     | done=>exact lV hfg ds _ h' e
     | _=>cases e
theorem Om {fc call:bj} (hle:kC fc call) (fuel:Nat) (l:Nat) (args:List AV) (h:aw):(∀v h',Bl E fc fuel l args h= .ret v h'→qF E call fuel l args h= .ret v h')∧∀v h',Bl E fc fuel l args h= .panic v h'→qF E call fuel l args h= .panic v h':=by
 have key:∀out:ju,(∀why o,out≠ .fail why o)→Bl E fc fuel l args h=out→qF E call fuel l args h=out:=by
  intro out pZ e
  unfold Bl at e
  unfold qF
  split at e
  case h_2=>exact absurd e.symm (pZ _ _)
  rename_i st pd ts ps as_ bd dn hg
  rw[hg]
  simp only
  by_cases ha:args.length=ps.length
  · rw[if_pos ha] at e ⊢
    split at e
    · rename_i s1 h1
      rw[sO hle h1]
      simp only
      split at e
      · rename_i pd T' PF O_ Ua Ub hg2
        rw[hg2]
        simp only
        split at e
        · rename_i s2 h2;rw[sO hle h2];exact e
        · rename_i s2 h2;rw[sO hle h2];exact e
        · rename_i id s2 h2;rw[sO hle h2];exact e
        · rename_i v s2 h2;rw[sO hle h2];exact e
        · exact absurd e.symm (pZ _ _)
      · exact absurd e.symm (pZ _ _)
    · exact absurd e.symm (pZ _ _)
    · exact absurd e.symm (pZ _ _)
  · rw[if_neg ha] at e;exact absurd e.symm (pZ _ _)
 exact ⟨fun v h' e=>key _ (by simp) e,fun v h' e=>key _ (by simp) e⟩
noncomputable def Ri (E:Env) (call:bj) (fuel:Nat) (fn:Func) (p:Option AV) (s:St):ju:=match cO (FQ E call fuel) s.ds p s.h with
 | none=> .fail "unwind" none
 | some (some v,h')=> .panic v h'
 | some (none,h')=>match j5 E h' s.ts fn.results.toList with
   | some vs=> .ret (gF vs) h'
   | none=> .fail "results" none
theorem KQ (d fuel:Nat) {f:FuncId} {fn:Func} {b:Code} (hf:E.P.funcs[f]? =some fn) (hb:fn.body=some b) (args:List AV) (h:aw):
 gS E (d+1) fuel (.fn f) args h=(match mU E (gS E d fuel) fuel fn b args h .no with
  | .ok .normal s=>Ri E (gS E d fuel) fuel fn none s
  | .ok .ret s=>Ri E (gS E d fuel) fuel fn none s
  | .ok (.panic v) s=>Ri E (gS E d fuel) fuel fn (some v) s
  | .ok (.exit _) _=> .fail "exit" none
  | .fail why o=> .fail (why++ " in " ++fn.name) o):=by
 rw[gS]
 simp only[hf,hb]
 rfl
theorem MJ {fc call:bj} (hle:kC fc call) {fuel:Nat} {fn:Func} {p:Option AV} {res:aw→Option (List AV)} {ts:List AV} {h:aw} {y:Y} (C8:∀h' vs,res h'=some vs→j5 E h' ts fn.results.toList=some vs) {out:ju} (ho:∀why o,out≠ .fail why o)
 (e:Ik (p.elim (ob (.fail "results" none) (fun vs=>ju.ret (gF vs) h) (res h)) (fun v=> .panic v h)) (Ij E fc fuel p res h y.ds) y.ds=out):Ri E call fuel fn p ⟨ts,h,y.ds,y.rc⟩=out:=by
 unfold Ri
 cases hd:y.ds with
 | nil=>
   rw[hd] at e
   cases p with
   | some v=>exact e
   | none=>
     have e:ob (.fail "results" none) (fun vs=>ju.ret (gF vs) h) (res h)=out:=e
     cases hr:res h with
     | none=>rw[hr] at e;exact absurd e.symm (ho _ _)
     | some vs=>
       rw[hr] at e
       simp only[cO,C8 h vs hr]
       exact e
 | cons d ds=>
   rw[hd] at e
   have e:Ij E fc fuel p res h (d::ds)=out:=e
   unfold Ij at e
   cases hu:cO (iD E fc fuel) (d::ds) p h with
   | none=>rw[hu] at e;exact absurd e.symm (ho _ _)
   | some q=>
     rw[hu] at e
     have:=lV (g:=FQ E call fuel) (fun k as_ h rc p e=>Rg hle e) (d::ds) p h hu
     simp only[this]
     obtain ⟨q1,h'⟩:=q
     cases q1 with
     | some v=>exact e
     | none=>
       have e:ob (.fail "results" none) (fun vs=>ju.ret (gF vs) h') (res h')=out:=e
       cases hr:res h' with
       | none=>rw[hr] at e;exact absurd e.symm (ho _ _)
       | some vs=>rw[hr] at e;simp only[C8 h' vs hr];exact e
theorem IA (fuel:Nat):∀d,kC (zr E d fuel) (gS E d fuel)
 | 0=>fun _ _ _=>⟨fun _ _ e=>(by cases e),fun _ _ e=>(by cases e)⟩
 | d+1=>by
   have ih:=IA fuel d
   intro g args h
   cases g with
   | vg l=>exact Om ih fuel l args h
   | fn f=>
     have key:∀out:ju,(∀why o,out≠ .fail why o)→zr E (d+1) fuel (.fn f) args h=out→gS E (d+1) fuel (.fn f) args h=out:=by
      intro out ho e
      have e:bo (fun res h' y=>Ik (ob (.fail "results" none) (fun vs=>ju.ret (gF vs) h') (res h')) (Ij E (zr E d fuel) fuel none res h' y.ds) y.ds)
       (fun v res h' y=>Ik (.panic v h') (Ij E (zr E d fuel) fuel (some v) res h' y.ds) y.ds) (.fail "body" none) ((zq E f).run fuel (zr E d fuel) args h .no)=out:=e
      rcases Iz (E:=E) ih f fuel args h .no with h1 | ⟨fn,b,h1,h2,h3⟩
      · rw[h1] at e;exact absurd e.symm (ho _ _)
      · rw[KQ d fuel h1 h2]
        cases hr:(zq E f).run fuel (zr E d fuel) args h .no with
        | bad=>rw[hr] at e;exact absurd e.symm (ho _ _)
        | fin res h' y=>
          rw[hr] at e h3
          obtain ⟨x,ts,h4,h5,h6⟩:=h3
          have:=MJ (E:=E) ih (fn:=fn) (p:=none) h6 ho e
          rw[h5]
          rcases h4 with rfl | rfl<;>exact this
        | pan v res h' y=>
          rw[hr] at e h3
          obtain ⟨ts,h5,h6⟩:=h3
          have:=MJ (E:=E) ih (fn:=fn) (p:=some v) h6 ho e
          rw[h5];exact this
     exact ⟨fun v h' e=>key _ (by simp) e,fun v h' e=>key _ (by simp) e⟩
theorem Bu {d fuel:Nat} {f:FuncId} {args:List AV} {h h':aw} {v:AV} (e:zr E d fuel (.fn f) args h= .ret v h'):gS E d fuel (.fn f) args h= .ret v h':=
 (IA fuel d _ _ _).1 v h' e
end Go.Ab.Fa
end
section
namespace Go.Ab
structure agr (P:Program) (f:FuncId) (e:Array Value→Sem Value):Prop where
 at':∃fn,P.funcs[f]? =some fn∧(fn.name== "runtime.NumGoroutine")=false∧fn.body.isNone=true∧Extern.findNext fn=none∧Extern.find fn=some e
section
open Fa
noncomputable def l3 {R:Type} (f:AV→AV→AV→R) (d:R) (l:List AV):R:=
 List.rec (motive:=fun _=>R) d (fun a tl _=>List.rec (motive:=fun _=>R) d (fun b tl _=>List.rec (motive:=fun _=>R) d (fun c tl _=>List.rec (motive:=fun _=>R) (f a b c) (fun _ _ _=>d) tl) tl) tl) l
noncomputable def l2 {R:Type} (f:AV→AV→R) (d:R) (l:List AV):R:=
 List.rec (motive:=fun _=>R) d (fun a tl _=>List.rec (motive:=fun _=>R) d (fun b tl _=>List.rec (motive:=fun _=>R) (f a b) (fun _ _ _=>d) tl) tl) l
noncomputable def n3 (f:Nat→Nat→Nat→Option AV):List AV→Option AV:=
 l3 (fun a b c=>oC (fun _ x=>oC (fun _ y=>oC (fun _ z=>lq (fun x=>lq (fun y=>lq (fun z=>f x y z) none z) none y) none x) none c) none b) none a) none
end
open Fa
end Go.Ab
end
section
namespace Go.Ab
open Go.Maps Go.WideElems Go.RowKit Go.Proofs
section
open Fa
noncomputable def l1 {R:Type} (f:AV→R) (d:R) (l:List AV):R:=List.rec (motive:=fun _=>R) d (fun a tl _=>List.rec (motive:=fun _=>R) (f a) (fun _ _ _=>d) tl) l
end
open Fa
theorem OK.later {E:Env} {φ:Ph} {h:aw} {w w':World} (ok:OK E φ h w) (b:Below w.heap.size w w'):OK E φ h w'∧Fr φ h w φ h w':=by
 have hblk:∀j p m,h.get j=some p→φ j=some m→m.eg<w.heap.size:=fun j p m hj hm=>by
  have Az:=ok.live j p m hj hm
  rcases Nat.lt_or_ge m.eg w.heap.size with a | a
  · exact a
  · exfalso
    rw[Array.getElem?_eq_none a] at Az
    exact Az.absurd
 refine ⟨⟨ok.z_,ok.nx,ok.vh,fun i o l h1 h2=>?_,ok.inj⟩,⟨Ph.le_refl φ,fun _ _=>rfl,Nat.le_refl _,b.os,b.tape,b.output,b.size,fun c hc _=>b.block c hc,fun i o l h1 h2 h3=> .inr ⟨i,o,l,h1,h2,h3,rfl⟩⟩⟩
 rw[b.block _ (hblk i o l h1 h2)]
 exact ok.live i o l h1 h2
end Go.Ab
end
section
namespace Go.Ab
structure VB where
 g:Nat
 k:IntKind
 ns:List Nat
 t:TypeId
def VB.cells (x:VB):List AV:=x.ns.map fun n=>AV.int x.k (Int.ofNat n)
noncomputable def lW (G:Nat):List VB→aw
 | []=>⟨HT.nil,G,fun _=>none⟩
 | x::xs=>(lW G xs).put x.g (some (.cells x.cells x.t true))
theorem MK (i:Nat) (G:Nat):(aw.mk HT.nil G fun _=>none).get i=none:=by
 by_cases hi:i<262144
 · rw[aw.vj hi]
   rw[AS hi,yd,AR]
   simp only[HT.nil,Av]
 · rw[aw.qG hi]
theorem yI (G:Nat):∀l,(lW G l).nx=G
 | []=>rfl
 | _::xs=>yI G xs
theorem qX {G:Nat}:∀{l:List VB} {i:Nat} {o:aY},(lW G l).get i=some o→∃x∈l,x.g=i∧o= .cells x.cells x.t true
 | [],i,o,e=>by rw[lW,MK] at e;cases e
 | x::xs,i,o,e=>by
   rw[lW] at e
   by_cases h:x.g=i
   · subst h
     rw[aw.bU] at e
     exact ⟨x,by simp,rfl,(Option.some.inj e).symm⟩
   · rw[aw.bx h] at e
     obtain ⟨y,hy,h1,h2⟩:=qX e
     exact ⟨y,by simp [hy],h1,h2⟩
def abC (w:World) (x:VB):Prop:=∃C e fz,w.heap[x.g]? =some (.cells C e fz)∧C.toList=x.ns.map fun n=>Value.int x.k (Int.ofNat n)
def Xo (G:Nat):Ph:=fun i=>if i<G then some ⟨i,0,0⟩ else none
theorem OK.begin {E:Env} {w:World} {l:List VB} (hl:∀x∈l,x.g<E.G∧abC w x):OK E (Xo E.G) (lW E.G l) w:=by
 refine ⟨fun i l' h=>?_,?_,fun g hg=>?_,fun i o l' h1 h2=>?_,fun i j o p l' m _ _ h3 h4 _ h5=>?_⟩
 · unfold Xo at h;rw[yI];split at h
   · assumption
   · cases h
 · rw[yI];exact Nat.le_refl _
 · unfold Xo;rw[if_pos hg]
 · obtain ⟨x,hx,rfl,rfl⟩:=qX h1
   obtain ⟨hg,C,e,⟨lo,hi⟩,hw,hC⟩:=hl x hx
   unfold Xo at h2;rw[if_pos hg] at h2
   obtain rfl:=Option.some.inj h2
   refine ⟨C,e,lo,hi,hw,⟨?_,?_,(fun h=>by cases h),fun _ _ _=>rfl⟩,fun z=>by cases z⟩
   · have:C.size=x.ns.length:=by rw[←Array.length_toList,hC,List.length_map]
     simp [VB.cells,fK,this]
   · intro k y hk
     simp only[VB.cells,List.getElem?_map,Option.map_eq_some_iff] at hk
     obtain ⟨n,hn,rfl⟩:=hk
     refine ⟨.int x.k (Int.ofNat n),?_,.int _ _⟩
     rw[Nat.zero_add,←Array.getElem?_toList,hC,List.getElem?_map,hn];rfl
 · unfold Xo at h3 h4
   split at h3
   · split at h4
     · obtain rfl:=Option.some.inj h3
       obtain rfl:=Option.some.inj h4
       exact h5
     · cases h4
   · cases h3
noncomputable def wK (o:ju):Bool:=ju.rec (motive:=fun _=>Bool) (fun v _=>Fa.jF (fun b=>b) false v) (fun _ _=>false) (fun _ _=>false) o
theorem zv {o:ju} (h:wK o=true):∃h',o= .ret (.bool true) h':=by
 cases o with
 | ret v h'=>
   cases v with
   | bool b=>exact ⟨h',by rw[show b=true from h]⟩
   | _=>cases h
 | panic v h'=>cases h
 | fail _ _=>cases h
end Go.Ab
end
section
namespace Go.Ab
variable {E:Env}
noncomputable def qY (E:Env) (call:bj) (fuel:Nat) (fn:Func) (p:Option AV) (s:St):ju:=match cO (iD E call fuel) s.ds p s.h with
 | none=> .fail "unwind" none
 | some (some v,h')=> .panic v h'
 | some (none,h')=>match j5 E h' s.ts fn.results.toList with
   | some vs=> .ret (gF vs) h'
   | none=> .fail "results" none
noncomputable def wM (E:Env) (call:bj) (fuel:Nat) (f:FuncId) (args:List AV) (h:aw):ju:=match E.P.funcs[f]? with
 | none=> .fail "no function" none
 | some fn=>match fn.body with
   | none=> .fail ("no body " ++fn.name) none
   | some b=>match mU E call fuel fn b args h .no with
     | .ok .normal s=>qY E call fuel fn none s
     | .ok .ret s=>qY E call fuel fn none s
     | .ok (.panic v) s=>qY E call fuel fn (some v) s
     | .ok (.exit _) _=> .fail "exit" none
     | .fail why o=> .fail (why++ " in " ++fn.name) o
theorem px (hE:kK E) (fuel:Nat) {call:bj} (ih:iI E call):(∀f args h v h',wM E call fuel f args h= .ret v h'→lD E f args h v h')∧(∀f args h v h',wM E call fuel f args h= .panic v h'→Me E f args h v h'):=by
 have key:∀(f:FuncId) (args:List AV) (h:aw) (out:ju),wM E call fuel f args h=out→(∀why q,out≠ .fail why q)→
  ∃fn c e s p,E.P.funcs[f]? =some fn∧fn.body=some c∧mU E call fuel fn c args h .no= .ok e s∧
   ((p=none∧(e= .normal∨e= .ret))∨∃v,p=some v∧e= .panic v)∧
   ((∃v h',out= .panic v h'∧cO (iD E call fuel) s.ds p s.h=some (some v,h'))∨
    ∃vs h',out= .ret (gF vs) h'∧cO (iD E call fuel) s.ds p s.h=some (none,h')∧j5 E h' s.ts fn.results.toList=some vs):=by
  intro f args h out e eM
  unfold wM at e
  split at e
  · exact absurd e.symm (eM _ _)
  rename_i fn hf
  split at e
  · exact absurd e.symm (eM _ _)
  rename_i c hb
  have fin:∀(p:Option AV) (s:St),qY E call fuel fn p s=out→
   ((∃v h',out= .panic v h'∧cO (iD E call fuel) s.ds p s.h=some (some v,h'))∨
    ∃vs h',out= .ret (gF vs) h'∧cO (iD E call fuel) s.ds p s.h=some (none,h')∧j5 E h' s.ts fn.results.toList=some vs):=by
   intro p s hm
   unfold qY at hm
   split at hm
   · exact absurd hm.symm (eM _ _)
   · rename_i v h' hu;exact .inl ⟨v,h',hm.symm,hu⟩
   · rename_i h' hu
     split at hm
     · rename_i vs hv;exact .inr ⟨vs,h',hm.symm,hu,hv⟩
     · exact absurd hm.symm (eM _ _)
  split at e
  · rename_i s gG;exact ⟨fn,c,_,s,none,hf,hb,gG,.inl ⟨rfl,.inl rfl⟩,fin none s e⟩
  · rename_i s gG;exact ⟨fn,c,_,s,none,hf,hb,gG,.inl ⟨rfl,.inr rfl⟩,fin none s e⟩
  · rename_i v s gG;exact ⟨fn,c,_,s,some v,hf,hb,gG,.inr ⟨v,rfl,rfl⟩,fin (some v) s e⟩
  · exact absurd e.symm (eM _ _)
  · exact absurd e.symm (eM _ _)
 have run:∀(f:FuncId) (fn:Func) (c:Code) (args:List AV) (h:aw) (e:iC) (s:St) (p p':Option AV) (h':aw),E.P.funcs[f]? =some fn→fn.body=some c→mU E call fuel fn c args h .no= .ok e s→
  ((p=none∧(e= .normal∨e= .ret))∨∃v,p=some v∧e= .panic v)→cO (iD E call fuel) s.ds p s.h=some (p',h')→
  ∀(φ:Ph) (w:World) (vs:List Value),OK E φ h w→LR φ args vs→∀cs,∃φ' w' m' tmps todo,OK E φ' h' w'∧Fr φ h w φ' h' w'∧LR φ' s.ts tmps.toList∧
   ((p'=none∧m'= .returning)∨∃v v',p'=some v∧VR φ' v v'∧m'= .panicking [{v:=v',recovered:=false}])∧
   Steps E.P (lone (Frame.enter E.P f vs.toArray .normal) cs w) (lone {(bare f .normal).atR {tmps,defers:=[]} todo with mode:=m'} cs w'):=by
  intro f fn c args h e s p p' h' hf hb gG hp hu φ w vs ok hl cs
  obtain ⟨φ1,w1,a1,e1,x1,x2,x3,x4,x5,x6⟩:=(sE hE ih hf hb gG ok hl (kind:= .normal) (K:=fun _=>cs) ⟨rfl,fun fr hk=>by simp [tryRecover,show fr.kind= .normal from hk]⟩).is
  have H2:cur (fun _=>cs) s.rc=cs:=by cases s.rc<;>rfl
  have Qu:cur (fun _=>cs) RC.no=cs:=rfl
  rw[H2] at x6
  rw[Qu] at x6
  have hm:∃todo m,((p=none∧m= .returning)∨∃v v',p=some v∧VR φ1 v v'∧m= .panicking [{v:=v',recovered:=false}])∧
   Steps E.P (lone (Frame.enter E.P f vs.toArray .normal) cs w) (lone {(bare f .normal).atR a1 todo with mode:=m} cs w1):=by
   rcases hp with ⟨rfl,rfl | rfl⟩ | ⟨v,rfl,rfl⟩
   · cases x1;exact ⟨[],.returning,.inl ⟨rfl,rfl⟩,Steps.trans x6 (.one (stepR_end rfl))⟩
   · cases x1;obtain ⟨todo,hs⟩:=x6;exact ⟨_,.returning,.inl ⟨rfl,rfl⟩,Steps.trans hs (.one (stepR_ret rfl))⟩
   · cases x1 with
     | panic _ v' hv=>obtain ⟨todo,hs⟩:=x6;exact ⟨todo,_,.inr ⟨v,v',rfl,hv,rfl⟩,hs⟩
  obtain ⟨todo,m,hmp,r7⟩:=hm
  obtain ⟨φ2,w2,m2,A',f2,Qt,hs2⟩:=j8 hE ih s.ds hu (fr:={(bare f .normal).atR a1 todo with mode:=m}) (cs:=cs) x3 x2.ds (by
   rcases hmp with ⟨e,em⟩ | ⟨v,v',e,hv,em⟩
   · exact .inl ⟨e,em⟩
   · exact .inr ⟨v,v',e,hv,em⟩)
  exact ⟨φ2,w2,m2,a1.tmps,todo,A',x4.trans f2,x2.ts.mono f2.ext,Qt,Steps.trans r7 hs2⟩
 refine ⟨fun f args h v h' e=>?_,fun f args h v h' e=>?_⟩
 · obtain ⟨fn,c,e1,s,p,hf,hb,gG,hp,pZ⟩:=key f args h _ e (by simp)
   rcases pZ with ⟨v1,h1,he,_⟩ | ⟨vs1,h1,he,hu,C8⟩
   · simp at he
   · simp at he;obtain ⟨rfl,rfl⟩:=he
     intro φ w vs ok hl
     refine ⟨enters hE hf hb _ w,fun cs=>?_⟩
     obtain ⟨φ',w',m',tmps,todo,r_,fr,ht,hm,hs⟩:=run f fn c args h e1 s p none h' hf hb gG hp hu φ w vs ok hl cs
     obtain ⟨v',hv,gv⟩:=sD r_ ht C8
     rcases hm with ⟨_,rfl⟩ | ⟨v,v'',e,_⟩
     · exact ⟨φ',w',v',_,hv,r_,fr,hs,rfl,rfl,rfl,rfl,fn,hf,gv⟩
     · simp at e
 · obtain ⟨fn,c,e1,s,p,hf,hb,gG,hp,pZ⟩:=key f args h _ e (by simp)
   rcases pZ with ⟨v1,h1,he,hu⟩ | ⟨vs1,h1,he,_⟩
   · simp at he;obtain ⟨rfl,rfl⟩:=he
     intro φ w vs ok hl
     refine ⟨enters hE hf hb _ w,fun cs=>?_⟩
     obtain ⟨φ',w',m',tmps,todo,r_,fr,ht,hm,hs⟩:=run f fn c args h e1 s p (some v) h' hf hb gG hp hu φ w vs ok hl cs
     rcases hm with ⟨e,_⟩ | ⟨v2,v',e,hv,rfl⟩
     · simp at e
     · simp at e;subst e
       exact ⟨φ',w',v',_,hv,r_,fr,hs,rfl,rfl,rfl,fn,hf⟩
   · simp at he
namespace Fa
abbrev FR:=FuncId→List AV→aw→Option (AV×aw)
def FT (E:Env) (M:FR):Prop:=∀f args h v h',M f args h=some (v,h')→lD E f args h v h'
noncomputable def IB (nx:Nat) (l:List (Nat×aY)):aw:=List.rec (motive:=fun _=>aw) ⟨HT.nil,nx,fun _=>none⟩ (fun x _ h=>h.put x.1 (some x.2)) l
theorem DU {nx:Nat}:∀{l:List (Nat×aY)} {i:Nat} {o:aY},(IB nx l).get i=some o→(i,o)∈l
 | [],i,o,e=>by
   have e:(aw.mk HT.nil nx fun _=>none).get i=some o:=e
   by_cases hi:i<262144
   · rw[aw.vj hi] at e
     have e:(hp i).get HT.nil=some o:=e
     rw[AS hi,yd,AR] at e
     simp only[HT.nil,Av] at e
     cases e
   · rw[aw.qG hi] at e;cases e
 | x::xs,i,o,e=>by
   have e:((IB nx xs).put x.1 (some x.2)).get i=some o:=e
   by_cases h:x.1=i
   · subst h
     rw[aw.bU] at e
     cases e;simp
   · rw[aw.bx h] at e
     exact List.mem_cons_of_mem _ (DU e)
structure Ent where
 f:FuncId
 args:List AV
 nx:Nat
 K:List (Nat×aY)
 v:AV
 nx':Nat
 K':List (Nat×aY)
end Fa
end Go.Ab
end
section
namespace Go.Ab
variable {E:Env}
theorem LR.wN {φ φ':Ph} {xs:List AV} {ys zs:List Value} (h:LR φ xs ys) (h':LR φ' xs zs) (ih:∀(i:Nat) (x:AV) (y z:Value),xs[i]? =some x→ys[i]? =some y→zs[i]? =some z→VR φ x z):LR φ xs zs:=by
 refine ⟨h'.1,fun i x z hx hz=>?_⟩
 have hi:i<xs.length:=(List.getElem?_eq_some_iff.1 hx).1
 have:i<ys.length:=by rw[←h.1];exact hi
 exact ih i x ys[i] z hx (by simp [this]) hz
theorem VR.back {φ φ':Ph} (hle:φ.le φ') {x:AV} {y:Value} (h:VR φ x y):∀{z:Value},VR φ' x z→VR φ x z:=by
 induction h with
 | bool b=>intro z h;cases h;exact .bool b
 | int k n=>intro z h;cases h;exact .int k n
 | str s=>
   intro z h
   generalize he:AV.str s.data.toList=q at h
   cases h with
   | str s'=>exact .str s'
   | _=>cases he
 | gD=>intro z h;cases h;exact .gD
 | ptr o h=>intro z h';cases h' with | ptr _ h'=>rw[hle _ _ h] at h';cases h';exact .ptr o h
 | aK=>intro z h;cases h;exact .aK
 | slice o len cap op h=>intro z h';cases h' with | slice _ _ _ _ h'=>rw[hle _ _ h] at h';cases h';exact .slice o len cap op h
 | ff a cap=>intro z h;cases h;exact .ff _ _
 | dU=>intro z h;cases h;exact .dU
 | map h=>intro z h';cases h' with | map h'=>rw[hle _ _ h] at h';cases h';exact .map h
 | func f a b a' b' la lb ha hb iha ihb=>
   intro z h
   obtain ⟨c,d,rfl,hc,hd⟩:=VR.v_ h
   have h1:LR φ a c.toList:=LR.wN (ys:=a'.toList) ⟨by simpa using la,fun i x y p q=>ha i x y p (by simpa using q)⟩ hc fun i x y z p q r=>iha i x y p (by simpa using q) (hc.2 i x z p r)
   have h2:LR φ b d.toList:=LR.wN (ys:=b'.toList) ⟨by simpa using lb,fun i x y p q=>hb i x y p (by simpa using q)⟩ hd fun i x y z p q r=>ihb i x y p (by simpa using q) (hd.2 i x z p r)
   have:=VR.PG f h1 h2
   simpa using this
 | nilFunc=>intro z h;cases h;exact .nilFunc
 | yield h=>intro z h';cases h' with | yield h'=>rw[hle _ _ h] at h';cases h';exact .yield h
 | iface t v v' h ih=>intro z h';cases h' with | iface _ _ _ h'=>exact .iface t v _ (ih h')
 | nilIface=>intro z h;cases h;exact .nilIface
 | agg cs iO hl h ih=>
   intro z h'
   obtain ⟨d,rfl,hd⟩:=VR.j6 h'
   have h1:LR φ cs d.toList:=LR.wN (ys:=iO.toList) ⟨by simpa using hl,fun i x y p q=>h i x y p (by simpa using q)⟩ hd fun i x y z p q r=>ih i x y p (by simpa using q) (hd.2 i x z p r)
   have:=VR.NQ h1
   simpa using this
 | any v h=>intro z h';cases h' with | any _ h'=>exact .any _ h'
 | tuple cs iO hl h ih=>
   intro z h'
   obtain ⟨d,rfl,hd⟩:=VR.Dx h'
   have h1:LR φ cs d.toList:=LR.wN (ys:=iO.toList) ⟨by simpa using hl,fun i x y p q=>h i x y p (by simpa using q)⟩ hd fun i x y z p q r=>ih i x y p (by simpa using q) (hd.2 i x z p r)
   have:=VR.tuple' h1
   simpa using this
theorem LR.back {φ φ':Ph} (hle:φ.le φ') {xs:List AV} {ys zs:List Value} (h:LR φ xs ys) (h':LR φ' xs zs):LR φ xs zs:=
 LR.wN h h' fun i x y z p q r=>(h.2 i x y p q).back hle (h'.2 i x z p r)
theorem OR.back {φ φ':Ph} (hle:φ.le φ') {o:aY} {l:Loc} {x z:Option Obj} (h:OR E φ o l x) (h':OR E φ' o l z):OR E φ o l z:=by
 cases o with
 | cells cs e ro=>
   obtain ⟨C,e1,lo,hi,_,hc⟩:=h
   obtain ⟨D,e2,Kf,ES,hz,hd⟩:=h'
   refine ⟨D,e2,Kf,ES,hz,⟨hd.size,fun k x hk=>?_,hd.free,hd.zero⟩,hd.shape⟩
   obtain ⟨y,_,hy⟩:=hc.val k x hk
   obtain ⟨y',h1,PZ⟩:=hd.val k x hk
   exact ⟨y',h1,hy.back hle PZ⟩
 | map es clock=>
   obtain ⟨_,es1,_,hl,hv⟩:=h
   obtain ⟨h0,es2,hz,Uh,hv'⟩:=h'
   refine ⟨h0,es2,hz,Uh,fun i x y hx hy=>?_⟩
   have hi:i<es.length:=(List.getElem?_eq_some_iff.1 hx).1
   have:i<es1.toList.length:=by rw[←hl];exact hi
   have a:=hv i x _ hx (List.getElem?_eq_getElem this)
   have b:=hv' i x y hx hy
   exact ⟨a.key.back hle b.key,a.val.back hle b.val,b.born⟩
 | uH s pos=>exact h'
 | AO m since seen qC=>
   cases m with
   | none=>exact h'
   | some m=>
     obtain ⟨_,lm,hm,_⟩:=h
     obtain ⟨h0,lm',Y1,hz⟩:=h'
     rw[hle _ _ hm] at Y1;cases Y1
     exact ⟨h0,lm,hm,hz⟩
 | loop st pd ts ps as_ bd dn=>
   obtain ⟨_,r,_,hr⟩:=h
   obtain ⟨h0,r',hz,Hv⟩:=h'
   obtain ⟨ld,hd,_⟩:=hr.defers
   obtain ⟨ld',J1,J0⟩:=Hv.defers
   rw[hle _ _ hd] at J1;cases J1
   exact ⟨h0,r',hz,Hv.state,Hv.pending,hr.tmps.back hle Hv.tmps,Hv.params,Hv.assign,Hv.body,⟨ld,hd,J0⟩,Hv.fn⟩
 | pG=>exact h'
def Has (h h':aw):Prop:=∀i o,h.get i=some o→h'.get i=some o
theorem Has.refl (h:aw):Has h h:=fun _ _ e=>e
theorem Has.trans {a b c:aw} (x:Has a b) (y:Has b c):Has a c:=fun i o e=>y i o (x i o e)
theorem OK.forget {φ φ':Ph} {h h':aw} {w w':World} (ok:OK E φ h w) (hle:φ.le φ') (r_:OK E φ' h' w') (hs:Has h h'):OK E φ h w' where
 z_:=ok.z_
 nx:=ok.nx
 vh:=ok.vh
 live i o l a b:=(ok.live i o l a b).back hle (r_.live i o l (hs i o a) (hle _ _ b))
 inj:=ok.inj
theorem Fr.forget {φ φ':Ph} {h h':aw} {w w':World} (f:Fr φ h w φ' h' w'):Fr φ h w φ h w' where
 ext:=Ph.le_refl φ
 old _ _:=rfl
 nx:=Nat.le_refl _
 os:=f.os
 tape:=f.tape
 output:=f.output
 size:=f.size
 wb:=f.wb
 own i o l a b c:= .inr ⟨i,o,l,a,b,c,rfl⟩
def AV.plain:Nat→AV→Bool
 | 0,_=>false
 | n+1,x=>match x with
   | .bool _ | .int .. | .str _ | .gD | .aK | .dU | .nilFunc | .nilIface=>true
   | .iface _ v=>AV.plain n v
   | .agg cs=>cs.all (AV.plain n)
   | .tuple cs=>cs.all (AV.plain n)
   | _=>false
theorem VR.plain {φ φ':Ph}:∀(n:Nat) {x:AV} (_:AV.plain n x=true) {y:Value},VR φ' x y→VR φ x y
 | 0,_,h,_,_=>by cases h
 | n+1,x,h,y,hv=>by
   have ih:= @VR.plain φ φ' n
   cases hv with
   | bool b=>exact .bool b
   | int k m=>exact .int k m
   | str s=>exact .str s
   | gD=>exact .gD
   | aK=>exact .aK
   | dU=>exact .dU
   | nilFunc=>exact .nilFunc
   | nilIface=>exact .nilIface
   | iface t v v' h'=>exact .iface t v v' (ih (by simpa [AV.plain] using h) h')
   | agg cs iO hl hc=>
     refine .agg cs iO hl fun i x y a b=>ih ?_ (hc i x y a b)
     simp only[AV.plain,List.all_eq_true] at h
     exact h x (List.mem_of_getElem? a)
   | tuple cs iO hl hc=>
     refine .tuple cs iO hl fun i x y a b=>ih ?_ (hc i x y a b)
     simp only[AV.plain,List.all_eq_true] at h
     exact h x (List.mem_of_getElem? a)
   | _=>cases h
theorem lD.closed {f:FuncId} {args:List AV} {h':aw} {v:AV} (r:lD E f args (Fa.IB E.G []) v h') (ha:args.all (AV.plain 20)=true) (hv:AV.plain 20 v=true) (h:aw):lD E f args h v h:=fun φ w vs ok hl=>by
 let φ0:Ph:=fun i=>if i<E.G then φ i else none
 have hle:φ0.le φ:=fun i l e=>by
  simp only[φ0] at e
  split at e
  · exact e
  · cases e
 have Rj:∀{i o},(Fa.IB E.G []).get i=some o→False:=fun e=>by cases Fa.DU e
 have ok0:OK E φ0 (Fa.IB E.G []) w:=by
  refine ⟨fun i l e=>?_,Nat.le_refl _,fun g hg=>?_,fun i o l e=>(Rj e).elim,fun i j o p l m e=>(Rj e).elim⟩
  · simp only[φ0] at e
    split at e
    · assumption
    · cases e
  · simp only[φ0,hg,if_true];exact ok.vh g hg
 have Yi:LR φ0 args vs:=⟨hl.1,fun i x y a b=>(hl.2 i x y a b).plain 20 (List.all_eq_true.1 ha x (List.mem_of_getElem? a))⟩
 obtain ⟨h1,h2⟩:=r φ0 w vs ok0 Yi
 refine ⟨h1,fun cs=>?_⟩
 obtain ⟨φ',w',v',fr,x1,x2,x3,x4⟩:=h2 cs
 have Xp:∀b,b<w.heap.size→w'.heap[b]? =w.heap[b]? :=fun b hb=>x3.wb b hb fun i o l e=>(Rj e).elim
 refine ⟨φ,w',v',fr,x1.plain 20 hv,⟨ok.z_,ok.nx,ok.vh,fun i o l a b=>?_,ok.inj⟩,⟨Ph.le_refl φ,fun _ _=>rfl,Nat.le_refl _,x3.os,x3.tape,x3.output,x3.size,fun b hb _=>Xp b hb,fun i o l a b c=> .inr ⟨i,o,l,a,b,c,rfl⟩⟩,x4⟩
 have hr:=ok.live i o l a b
 by_cases hb:l.eg<w.heap.size
 · rw[Xp _ hb];exact hr
 · rw[Array.getElem?_eq_none (by omega)] at hr
   exact hr.absurd.elim
end Go.Ab
end
