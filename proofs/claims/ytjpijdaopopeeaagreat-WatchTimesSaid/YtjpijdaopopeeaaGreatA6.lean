import Derived.Laws.Externs
import Derived.Lib.Bytealg
import Derived.Maps.Own
import Derived.Maps.Range
import Derived.Sort.KeysCollected
import GoSem.ClaimChange
import Derived.OpenShut
import Derived.FnData
import Derived.ChangeArms
import Derived.Test.YtjpijdaopopeeaaGreatA5
import Derived.Test.YtjpijdaopopeeaaGreatA3
import Derived.Test.YtjpijdaopopeeaaGreatA1
import Derived.Test.YtjpijdaopopeeaaGreatA4
set_option linter.unusedVariables false
set_option linter.unusedSimpArgs false
section
namespace Go.Ab.Fa
variable {E:Env} {F:RF} {n:Nat}
theorem evAll_one {ts:List AV} {x:Operand} {a:AV} (h:evs E ts x=some a):evAll E ts [x]=some [a]:=by simp [evAll,mapAll,h]
theorem evAll_two {ts:List AV} {x y:Operand} {a b:AV} (h:evs E ts x=some a) (h':evs E ts y=some b):evAll E ts [x,y]=some [a,b]:=by simp [evAll,mapAll,h,h']
theorem lenF_eq (v:AV):lenF v=lenA v:=by
 cases v with
 | str s=>show some (llen s)=some s.length;rw[llen_eq]
 | _=>rfl
theorem firstF_eq {h:Heap} {size m:Nat} {v:AV} {l:List AV} (e:firstF h size m v=some l):firstA h size m v=some l:=by
 cases v with
 | nilslice=>
   obtain ⟨h1,e1⟩:=bc_opt (show bc (Nat.beq m 0) (some []) none=some l from e)
   simp only[firstA];rw[if_pos (beq_of h1)];exact e1
 | slice i o len c b=>
   obtain ⟨h1,e1⟩:=bc_opt (show bc (Nat.ble m len) (ob none (fun obj=>oCells (fun cs _ _=>bc (Nat.ble (o+m*size) (llen cs)) (some (ltake (ldrop cs o) (m*size))) none) none obj) (h.get i)) none=some l from e)
   obtain ⟨obj,h2,e2⟩:=ob_opt e1
   obtain ⟨cs,el,ro,rfl,e3⟩:=oCells_opt e2
   obtain ⟨h3,e4⟩:=bc_opt e3
   have h1:=ble_le h1
   have h3:=ble_le h3
   rw[llen_eq] at h3
   rw[ltake_eq,ldrop_eq] at e4
   simp only[firstA,h2]
   rw[if_pos h1]
   by_cases h0:m=0
   · subst h0
     rw[if_pos rfl]
     rw[Nat.zero_mul,List.take_zero] at e4
     exact e4
   · rw[if_neg h0,if_pos h3];exact e4
 | _=>exact e
theorem newOb {h:Heap} {obj:AObj} {f:Heap→AV×Heap} {p:AV×Heap} (e:ob none (fun h'=>some (f h')) (h.new obj)=some p):∃h',h.new obj=some h'∧p=f h':=by
 obtain ⟨h',h1,e1⟩:=ob_opt e
 exact ⟨h',h1,(Option.some.inj e1).symm⟩
theorem appF_eq {argTypes:Array TypeId} {sT xT elem:TypeId} {xd:TypeDesc} {size bytes:Nat} {z:AV} (h1:argTypes[0]? =some sT) (h2:argTypes[1]? =some xT) (h3:E.P.underlying sT=some (.slice elem)) (h4:E.P.underlying xT=some xd)
 (h5:isIntD xd=false) (h6:sizeT E elem=some size) (h7:bytesT E elem=some bytes) (h8:zeroT E elem=some z) (h9:z.cells.length=size)
 {h:Heap} {s x:AV} {p:AV×Heap} (e:appF elem size bytes h s x=some p):appendA E h argTypes s x=some p:=by
 obtain ⟨m,a1,e1⟩:=ob_opt e
 rw[lenF_eq] at a1
 obtain ⟨new,a2,e2⟩:=ob_opt e1
 have a2:=firstF_eq a2
 obtain ⟨a3,e3⟩:=bc_opt e2
 obtain ⟨a4,e4⟩:=bc_opt e3
 rw[lall_eq,isSc_fun] at a3
 have a4:=beq_of a4
 rw[llen_eq] at a4
 unfold appendA
 simp only[h1,h2,h3,h4,h5,h6,h7,h8,a1,a2]
 rw[if_neg (by simp)]
 rw[if_pos ⟨h9,a3,a4⟩]
 rcases vSlice_opt e4 with ⟨rfl,e5⟩ | ⟨i,o,len,cap,op,rfl,e5⟩
 · cases hm:Nat.beq m 0 with
   | true=>
     rw[hm,bc_true] at e5
     simp only;rw[if_pos (beq_of hm)];exact e5
   | false=>
     rw[hm,bc_false] at e5
     obtain ⟨a5,e6⟩:=bc_opt e5
     have a5:(4*m+4096)*(bytes+1)≤1099511627776:=ble_le a5
     obtain ⟨h',a6,rfl⟩:=newOb e6
     simp only
     rw[if_neg (by intro ee;rw[ee] at hm;cases hm),if_pos a5]
     simp only[a6]
 · obtain ⟨obj,a5,e6⟩:=ob_opt e5
   obtain ⟨cs,el,ro,rfl,e7⟩:=oCells_opt e6
   obtain ⟨a6,e8⟩:=bc_opt' e7
   subst a6
   simp only[a5]
   cases hc:Nat.ble (Nat.add len m) cap with
   | true=>
     rw[hc,bc_true] at e8
     have hc:len+m≤cap:=ble_le hc
     obtain ⟨a7,e9⟩:=bc_opt e8
     have a7:o+(len+m)*size≤llen cs:=ble_le a7
     rw[llen_eq] at a7
     rw[if_pos hc,if_pos a7,←Option.some.inj e9,lput_eq];rfl
   | false=>
     rw[hc,bc_false] at e8
     have hc:cap<len+m:=ble_lt hc
     obtain ⟨a7,e9⟩:=bc_opt e8
     have a7:(4*(len+m)+4096)*(bytes+1)≤1099511627776:=ble_le a7
     obtain ⟨a8,e10⟩:=bc_opt e9
     have a8:o+len*size≤llen cs:=ble_le a8
     rw[llen_eq] at a8
     rw[if_neg (by omega)]
     cases op with
     | true=>
       rw[bc_true] at e10
       obtain ⟨a9,e11⟩:=bc_opt e10
       obtain ⟨a10,e12⟩:=bc_opt e11
       have a9:=beq_of a9
       have a10:o+cap*size=llen cs:=beq_of a10
       rw[llen_eq] at a10
       obtain ⟨h',a11,rfl⟩:=newOb e12
       rw[lapp_eq,ltake_eq,ldrop_eq] at a11
       rw[if_pos ⟨a7,a8,fun _=>⟨a9,a10⟩⟩]
       rw[if_pos rfl]
       have a11':(h.put i none).new (.cells ((cs.drop o).take (len*size)++new) elem false)=some h':=a11
       simp only[a11'];rfl
     | false=>
       rw[bc_false] at e10
       obtain ⟨h',a11,rfl⟩:=newOb e10
       rw[lapp_eq,ltake_eq,ldrop_eq] at a11
       rw[if_pos ⟨a7,a8,fun hh=>by cases hh⟩]
       rw[if_neg (by simp)]
       have a11':h.new (.cells ((cs.drop o).take (len*size)++new) elem false)=some h':=a11
       simp only[a11'];rfl
theorem nones_eff_builtin {b:Builtin} (h1:b≠ .len) (h2:b≠ .cap) (h3:b≠ .max) (h4:b≠ .min) (a:Array Operand) (t:Array TypeId):Nones E (.call ⟨.builtin b,a,t⟩):=by
 cases b<;>first | exact absurd rfl h1 | exact absurd rfl h2 | exact absurd rfl h3 | exact absurd rfl h4 | exact ⟨fun _=>rfl,fun _ _=>rfl,fun _=>rfl⟩
theorem append_ok (a:Array Operand) (t:Array TypeId):KdOK E F n (.call ⟨.builtin .append,a,t⟩) (match a.toList with
 | [s,x]=>wO E F n s (fun gs=>wO E F n x (fun gx=>appK E t gs gx) .bad) .bad
 | _=> .bad):=by
 have nn:Nones E (.call ⟨.builtin .append,a,t⟩):=nones_eff_builtin (by simp) (by simp) (by simp) (by simp) a t
 generalize hl:a.toList=l
 match l with
 | []=>trivial
 | [_]=>trivial
 | _::_::_::_=>trivial
 | [s,x]=>
   simp only
   rcases wO_spec E F n s (fun gs=>wO E F n x (fun gx=>appK E t gs gx) .bad) (.bad:Kd F.T) with h | ⟨gs,h,hs⟩<;>rw[h]
   · trivial
   rcases wO_spec E F n x (fun gx=>appK E t gs gx) (.bad:Kd F.T) with h | ⟨gx,h,hx⟩<;>rw[h]
   · trivial
   unfold appK
   simp only[lnth_eq,Array.getElem?_toList,undF_eq,szF_eq,byF_eq,zeF_eq]
   have fin:∀(f:F.T→Heap→Option (AV×Heap)),(∀r h p,f r h=some p→appendA E h t (gs r) (gx r)=some p)→KdOK E F n (.call ⟨.builtin .append,a,t⟩) (.wr f):=by
    intro f hf
    refine ⟨nn,fun call r h rc o p ho e=>?_⟩
    simp only[effA,ho,hl,evAll_two (hs r) (hx r),hf r h p e]
   cases h1:t[0]? with
   | none=>trivial
   | some sT=>cases h2:t[1]? with
     | none=>trivial
     | some xT=>
       simp only
       cases h3:E.P.underlying sT with
       | none=>trivial
       | some sd=>cases h4:E.P.underlying xT with
         | none=>cases sd<;>trivial
         | some xd=>cases sd with
           | slice elem=>
             simp only
             cases h5:isIntD xd with
             | true=>
               rw[if_pos rfl]
               apply fin
               intro r h p e
               unfold appendA
               simp only[h1,h2,h3,h4,h5]
               rw[if_pos trivial];exact e
             | false=>
               rw[if_neg (by simp)]
               cases h6:sizeT E elem with
               | none=>trivial
               | some size=>cases h7:bytesT E elem with
                 | none=>trivial
                 | some bytes=>cases h8:zeroT E elem with
                   | none=>trivial
                   | some z=>
                     simp only
                     by_cases h9:z.cells.length=size
                     · rw[if_pos h9]
                       exact fin _ fun r h p e=>appF_eq h1 h2 h3 h4 h5 h6 h7 h8 h9 e
                     · rw[if_neg h9];trivial
           | _=>trivial
theorem copy_ok (a:Array Operand) (t:Array TypeId):KdOK E F n (.call ⟨.builtin .copy,a,t⟩) (match a.toList with
 | [s,x]=>wO E F n s (fun gs=>wO E F n x (fun gx=> .wr fun r h=>copyA E h t (gs r) (gx r)) .bad) .bad
 | _=> .bad):=by
 have nn:Nones E (.call ⟨.builtin .copy,a,t⟩):=nones_eff_builtin (by simp) (by simp) (by simp) (by simp) a t
 generalize hl:a.toList=l
 match l with
 | []=>trivial
 | [_]=>trivial
 | _::_::_::_=>trivial
 | [s,x]=>
   simp only
   rcases wO_spec E F n s (fun gs=>wO E F n x (fun gx=>(.wr fun r h=>copyA E h t (gs r) (gx r):Kd F.T)) .bad) (.bad:Kd F.T) with h | ⟨gs,h,hs⟩<;>rw[h]
   · trivial
   rcases wO_spec E F n x (fun gx=>(.wr fun r h=>copyA E h t (gs r) (gx r):Kd F.T)) (.bad:Kd F.T) with h | ⟨gx,h,hx⟩<;>rw[h]
   · trivial
   refine ⟨nn,fun call r h rc o p ho e=>?_⟩
   simp only[effA,ho,hl,evAll_two (hs r) (hx r),e]
theorem recover_ok (a:Array Operand) (t:Array TypeId):KdOK E F n (.call ⟨.builtin .recover,a,t⟩) (.eff fun _ _ h rc=>match rc with
 | .pend x=> .recov x
 | .bar _=> .fail "" none
 | _=> .val .nilIface h):=by
 refine ⟨nones_eff_builtin (by simp) (by simp) (by simp) (by simp) a t,fun fc call _ r h rc o ho=>?_⟩
 simp only[effA,ho]
 cases rc<;>first | trivial | rfl
theorem len_ok (a:Array Operand) (t:Array TypeId):KdOK E F n (.call ⟨.builtin .len,a,t⟩) (match lnth t.toList 0,a.toList with
 | some t,[x]=>wO E F n x (fun g=>match undF E.P t with
   | some .string=> .pur fun r=>vStr (fun s=>some (.int .i64 (Int.ofNat (llen s)))) none (g r)
   | some (.array m _)=> .pur fun _=>some (.int .i64 (Int.ofNat m))
   | some (.slice _)=> .pur fun r=>vSlice (some (.int .i64 (Int.ofNat 0))) (fun _ _ m _ _=>some (.int .i64 (Int.ofNat m))) (vZ (some (.int .i64 (Int.ofNat 0))) none (g r)) (g r)
   | some (.map _ _)=> .red fun r h=>mlenF h (g r)
   | _=> .bad) .bad
 | _,_=> .bad):=by
 rw[lnth_eq,Array.getElem?_toList]
 cases ht:t[0]? with
 | none=>trivial
 | some tt=>
   generalize hl:a.toList=l
   match l with
   | []=>trivial
   | _::_::_=>trivial
   | [x]=>
     simp only[undF_eq]
     rcases wO_spec E F n x (fun g=>match E.P.underlying tt with
      | some .string=>(.pur fun r=>vStr (fun s=>some (.int .i64 (Int.ofNat (llen s)))) none (g r):Kd F.T)
      | some (.array m _)=> .pur fun _=>some (.int .i64 (Int.ofNat m))
      | some (.slice _)=> .pur fun r=>vSlice (some (.int .i64 (Int.ofNat 0))) (fun _ _ m _ _=>some (.int .i64 (Int.ofNat m))) (vZ (some (.int .i64 (Int.ofNat 0))) none (g r)) (g r)
      | some (.map _ _)=> .red fun r h=>mlenF h (g r)
      | _=> .bad) .bad with h | ⟨g,h,hg⟩<;>rw[h]
     · trivial
     cases hu:E.P.underlying tt with
     | none=>trivial
     | some d=>cases d with
       | string=>
         intro r v e
         obtain ⟨s,e1,e2⟩:=vStr_opt e
         simp only[pureA,ht,hl,evAll_one (hg r),hu,e1]
         rw[←e2,llen_eq];rfl
       | array m el=>
         intro r v e
         simp only[pureA,ht,hl,evAll_one (hg r),hu]
         exact e
       | slice el=>
         intro r v e
         rcases vSliceZ_opt e with ⟨e1,e2⟩ | ⟨i,o,l,c,b,e1,e2⟩ | ⟨e1,e2⟩
         · simp only[pureA,ht,hl,evAll_one (hg r),hu,e1];exact e2
         · simp only[pureA,ht,hl,evAll_one (hg r),hu,e1];exact e2
         · simp only[pureA,ht,hl,evAll_one (hg r),hu,e1];exact e2
       | map key el=>
         intro r h v e
         have e:mlenF h (g r)=some v:=e
         generalize hm:g r=m at e
         cases m with
         | nilmap=>exact .inl (by simp only[pureA,ht,hl,evAll_one (hg r),hu,hm];exact e)
         | map i=>
           refine .inr ⟨by simp only[pureA,ht,hl,evAll_one (hg r),hu,hm],?_⟩
           obtain ⟨o,h3,h4⟩:=ob_opt (show ob none (fun o=>oMap (fun es=>some (AV.int .i64 (Int.ofNat (llen es)))) none o) (h.get i)=some v from e)
           cases o with
           | map es c=>
             have h4:some (AV.int .i64 (Int.ofNat (llen es)))=some v:=h4
             simp only[readA,ht,hl,evAll_one (hg r),hu,hm,h3]
             rw[←h4,llen_eq];rfl
           | _=>cases h4
         | _=>cases e
       | _=>trivial
theorem cap_ok (a:Array Operand) (t:Array TypeId):KdOK E F n (.call ⟨.builtin .cap,a,t⟩) (match lnth t.toList 0,a.toList with
 | some t,[x]=>wO E F n x (fun g=>match undF E.P t with
   | some (.slice _)=> .pur fun r=>vSlice (some (.int .i64 (Int.ofNat 0))) (fun _ _ _ c b=>bc b none (some (.int .i64 (Int.ofNat c)))) none (g r)
   | _=> .bad) .bad
 | _,_=> .bad):=by
 rw[lnth_eq,Array.getElem?_toList]
 cases ht:t[0]? with
 | none=>trivial
 | some tt=>
   generalize hl:a.toList=l
   match l with
   | []=>trivial
   | _::_::_=>trivial
   | [x]=>
     simp only[undF_eq]
     rcases wO_spec E F n x (fun g=>match E.P.underlying tt with
      | some (.slice _)=>(.pur fun r=>vSlice (some (.int .i64 (Int.ofNat 0))) (fun _ _ _ c b=>bc b none (some (.int .i64 (Int.ofNat c)))) none (g r):Kd F.T)
      | _=> .bad) .bad with h | ⟨g,h,hg⟩<;>rw[h]
     · trivial
     cases hu:E.P.underlying tt with
     | none=>trivial
     | some d=>cases d with
       | slice el=>
         intro r v e
         rcases vSlice_opt e with ⟨e1,e2⟩ | ⟨i,o,l,c,b,e1,e2⟩
         · simp only[pureA,ht,hl,evAll_one (hg r),hu,e1];exact e2
         · obtain ⟨rfl,e3⟩:=bc_opt' e2
           simp only[pureA,ht,hl,evAll_one (hg r),hu,e1];exact e3
       | _=>trivial
theorem static_ok (f:FuncId) (a:Array Operand) (t:Array TypeId):KdOK E F n (.call ⟨.value (.func f),a,t⟩) (wL E F n a.toList (fun gs=>match E.pureExt f with
 | some e=> .pur fun r=>e (gs r)
 | none=>match E.special f with
   | some g=> .wr fun r h=>g (gs r) h
   | none=> .call (.fn f) gs) .bad):=by
 rcases wL_spec E F n a.toList (fun gs=>match E.pureExt f with
  | some e=>(.pur fun r=>e (gs r):Kd F.T)
  | none=>match E.special f with
    | some g=> .wr fun r h=>g (gs r) h
    | none=> .call (.fn f) gs) .bad with h | ⟨gs,h,hg⟩<;>rw[h]
 · trivial
 cases hp:E.pureExt f with
 | some e=>
   intro r v h
   simp only[pureA,hp,hg];exact h
 | none=>
   have nn:Nones E (.call ⟨.value (.func f),a,t⟩):=⟨fun _=>by simp only[pureA,hp],fun _ _=>rfl,fun _=>rfl⟩
   have hc:∀r,callee E (toL F n r) ⟨.value (.func f),a,t⟩=some (.fn f,gs r):=by
    intro r
    simp only[callee,hg,evs]
    simp
   cases hs:E.special f with
   | some g=>
     refine ⟨nn,fun call r h rc o p ho e=>?_⟩
     have e':g (gs r) h=some p:=e
     simp only[effA,ho,hc,specialOf,hs,e']
   | none=>
     refine ⟨nn,fun call r h rc o ho=>?_⟩
     simp only[effA,ho,hc,specialOf,hs]
     cases call (.fn f) (gs r) h<;>rfl
theorem fromC_le {a b:COut} (h1:∀v h',a= .ret v h'→b= .ret v h') (h2:∀v h',a= .panic v h'→b= .panic v h'):ELe (fromC a) (fromC b):=by
 cases a with
 | ret v h=>rw[h1 v h rfl];rfl
 | panic v h=>rw[h2 v h rfl];rfl
 | fail _ _=>trivial
theorem dynamic_ok (x:Operand) (hx:∀f,x≠ .func f) (a:Array Operand) (t:Array TypeId):KdOK E F n (.call ⟨.value x,a,t⟩) (wO E F n x (fun gf=>wL E F n a.toList (fun gs=> .eff fun call r h _=>vFunc
 (fun g first captured=>ob (fromC (call (.fn g) (lapp first (lapp (gs r) captured)) h)) (fun sp=>ob (.fail "" none) (fun p=> .val p.1 p.2) (sp (lapp first (lapp (gs r) captured)) h)) (E.special g))
 (fun l=>fromC (call (.yld l) (gs r) h)) (.fail "" none) (gf r)) .bad) .bad):=by
 have nn:Nones E (.call ⟨.value x,a,t⟩):=by
  cases x with
  | func f=>exact absurd rfl (hx f)
  | _=>exact ⟨fun _=>rfl,fun _ _=>rfl,fun _=>rfl⟩
 let K:(F.T→AV)→(F.T→List AV)→Kd F.T:=fun gf gs=> .eff fun call r h _=>vFunc
  (fun g first captured=>ob (fromC (call (.fn g) (lapp first (lapp (gs r) captured)) h)) (fun sp=>ob (.fail "" none) (fun p=> .val p.1 p.2) (sp (lapp first (lapp (gs r) captured)) h)) (E.special g))
  (fun l=>fromC (call (.yld l) (gs r) h)) (.fail "" none) (gf r)
 show KdOK E F n _ (wO E F n x (fun gf=>wL E F n a.toList (fun gs=>K gf gs) .bad) .bad)
 rcases wO_spec E F n x (fun gf=>wL E F n a.toList (fun gs=>K gf gs) .bad) .bad with h | ⟨gf,h,hf⟩<;>rw[h]
 · trivial
 rcases wL_spec E F n a.toList (fun gs=>K gf gs) .bad with h | ⟨gs,h,hg⟩<;>rw[h]
 · trivial
 refine ⟨nn,fun fc call hle r h rc o ho=>?_⟩
 have ec:∀R,callee E (toL F n r) ⟨.value x,a,t⟩=R→effA E call (toL F n r) h rc o=(match R with
  | some (f,args)=>match specialOf E f with
    | some g=>(match g args h with | some (x,h')=> .val x h' | none=> .fail "eff" (some o))
    | none=>fromC (call f args h)
  | none=> .fail "callee" (some o)):=by
  intro R hR
  simp only[effA,ho,hR]
  cases R with
  | none=>rfl
  | some p=>
    obtain ⟨f,args⟩:=p
    simp only
    cases specialOf E f with
    | none=>simp only;cases call f args h<;>rfl
    | some g=>rfl
 show ELe (vFunc _ _ _ (gf r)) _
 cases hv:gf r with
 | func g first captured=>
   have hc:callee E (toL F n r) ⟨.value x,a,t⟩=some (.fn g,first++gs r++captured):=by
    simp only[callee,hf,hg,hv]
   rw[ec _ hc]
   have ha:lapp first (lapp (gs r) captured)=first++gs r++captured:=by rw[lapp_eq,lapp_eq,List.append_assoc]
   show ELe (ob (fromC (fc (.fn g) (lapp first (lapp (gs r) captured)) h)) (fun sp=>ob (.fail "" none) (fun p=> .val p.1 p.2) (sp (lapp first (lapp (gs r) captured)) h)) (E.special g)) _
   rw[ha]
   simp only[specialOf]
   cases hs:E.special g with
   | none=>exact fromC_le (hle _ _ _).1 (hle _ _ _).2
   | some sp=>
     show ELe (ob (.fail "" none) (fun p=> .val p.1 p.2) (sp (first++gs r++captured) h)) _
     simp only
     cases sp (first++gs r++captured) h with
     | none=>trivial
     | some p=>rfl
 | yieldF l=>
   have hc:callee E (toL F n r) ⟨.value x,a,t⟩=some (.yld l,gs r):=by
    simp only[callee,hf,hg,hv]
   rw[ec _ hc]
   simp only[specialOf]
   exact fromC_le (hle _ _ _).1 (hle _ _ _).2
 | _=>trivial
theorem invoke_ok (x:Operand) (name:String) (a:Array Operand) (t:Array TypeId):KdOK E F n (.call ⟨.invoke x name,a,t⟩) (wO E F n x (fun gx=>wL E F n a.toList (fun gs=> .eff fun call r h _=>vIface
 (fun t v=>ob (.fail "" none) (fun f=>fromC (call (.fn f) (v::gs r) h)) (methF E t name)) (.fail "" none) (gx r)) .bad) .bad):=by
 have nn:Nones E (.call ⟨.invoke x name,a,t⟩):=⟨fun _=>rfl,fun _ _=>rfl,fun _=>rfl⟩
 let K:(F.T→AV)→(F.T→List AV)→Kd F.T:=fun gx gs=> .eff fun call r h _=>vIface
  (fun t v=>ob (.fail "" none) (fun f=>fromC (call (.fn f) (v::gs r) h)) (methF E t name)) (.fail "" none) (gx r)
 show KdOK E F n _ (wO E F n x (fun gx=>wL E F n a.toList (fun gs=>K gx gs) .bad) .bad)
 rcases wO_spec E F n x (fun gx=>wL E F n a.toList (fun gs=>K gx gs) .bad) .bad with h | ⟨gx,h,hx⟩<;>rw[h]
 · trivial
 rcases wL_spec E F n a.toList (fun gs=>K gx gs) .bad with h | ⟨gs,h,hg⟩<;>rw[h]
 · trivial
 refine ⟨nn,fun fc call hle r h rc o ho=>?_⟩
 show ELe (vIface _ _ (gx r)) _
 cases hv:gx r with
 | iface u v=>
   show ELe (ob (.fail "" none) (fun f=>fromC (fc (.fn f) (v::gs r) h)) (methF E u name)) _
   cases hm:methF E u name with
   | none=>trivial
   | some f=>
     have hm':methodA E u name=some f:=hm
     have ec:effA E call (toL F n r) h rc o=fromC (call (.fn f) (v::gs r) h):=by
      simp only[effA,ho,hx,hg,hv,hm']
      cases call (.fn f) (v::gs r) h<;>rfl
     rw[ec]
     exact fromC_le (hle _ _ _).1 (hle _ _ _).2
 | _=>trivial
theorem callK_ok (c:Call):KdOK E F n (.call c) (callK E F n c (.call c)):=by
 obtain ⟨cal,a,t⟩:=c
 cases cal with
 | value x=>cases x with
   | func f=>exact static_ok f a t
   | tmp x=>exact dynamic_ok (.tmp x) (by simp) a t
   | const x=>exact dynamic_ok (.const x) (by simp) a t
   | global x=>exact dynamic_ok (.global x) (by simp) a t
 | invoke r m=>exact invoke_ok r m a t
 | builtin b=>cases b with
   | append=>exact append_ok a t
   | copy=>exact copy_ok a t
   | recover=>exact recover_ok a t
   | len=>exact len_ok a t
   | cap=>exact cap_ok a t
   | max=>exact fun r v e=>e
   | min=>exact fun r v e=>e
   | _=>trivial
theorem compK_ok (op:Op):KdOK E F n op (compK E F n op):=by
 cases op with
 | move x=>
   show KdOK E F n _ (wO E F n x .tot .bad)
   rcases wO_spec E F n x .tot (.bad:Kd F.T) with h | ⟨g,h,hg⟩<;>rw[h]
   · trivial
   · exact hg
 | assign x=>
   show KdOK E F n _ (wO E F n x .tot .bad)
   rcases wO_spec E F n x .tot (.bad:Kd F.T) with h | ⟨g,h,hg⟩<;>rw[h]
   · trivial
   · exact hg
 | pick c a b=>exact pick_ok c a b
 | binOp op t x y yt=>
   show KdOK E F n _ (wO E F n x (fun gx=>wO E F n y (fun gy=>binK op (binA E op t (isConst x) (isConst y)) gx gy) .bad) .bad)
   rcases wO_spec E F n x (fun gx=>wO E F n y (fun gy=>binK op (binA E op t (isConst x) (isConst y)) gx gy) .bad) (.bad:Kd F.T) with h | ⟨gx,h,hx⟩<;>rw[h]
   · trivial
   rcases wO_spec E F n y (fun gy=>binK op (binA E op t (isConst x) (isConst y)) gx gy) (.bad:Kd F.T) with h | ⟨gy,h,hy⟩<;>rw[h]
   · trivial
   exact binK_ok op t x y yt gx gy hx hy
 | unOp op t x=>
   show KdOK E F n _ (wO E F n x (unK op) .bad)
   rcases wO_spec E F n x (unK op) (.bad:Kd F.T) with h | ⟨g,h,hg⟩<;>rw[h]
   · trivial
   exact unK_ok op t x g hg
 | fieldAddr s x f=>exact fieldAddr_ok s x f
 | load t a=>exact load_ok t a
 | store t a x=>exact store_ok t a x
 | nilCheck x=>exact nilCheck_ok x
 | extract x i=>exact extract_ok x i
 | field s x f=>exact field_ok s x f
 | indexAddr t x ix=>exact indexAddr_ok t x ix
 | index t x ix=>exact index_ok t x ix
 | slice t x lo hi mx=>cases mx with
   | none=>exact slice_ok t x lo hi
   | some m=>exact fun r v e=>e
 | convert s d x=>exact convert_ok s d x
 | makeInterface t x=>exact makeInterface_ok t x
 | makeFunc f a b=>cases f with
   | func f=>exact makeFunc_ok f a b
   | _=>trivial
 | alloc t=>exact alloc_ok t
 | box t x=>exact box_ok t x
 | buildSlice t len parts=>exact buildSlice_ok t len parts
 | makeSlice t l c=>exact makeSlice_ok t l c
 | makeMap t r=>cases r with
   | none=>exact ⟨fun _=>rfl,fun _ _=>rfl,fun r p e=>e⟩
   | some x=>exact ⟨fun _=>rfl,fun _ _=>rfl,fun r p e=>e⟩
 | range t x=>exact ⟨fun _=>rfl,fun _ _=>rfl,fun r p e=>e⟩
 | lookup t x ix ok=>exact lookup_ok t x ix ok
 | build t parts=>exact build_ok t parts
 | typeAssert x a b ok=>exact fun r v e=>e
 | mapUpdate t m k x=>exact mapUpdate_ok t m k x
 | insert t m k x=>exact insert_ok t m k x
 | next it s=>exact next_ok it s
 | panic x=>exact panic_ok x
 | defer c=>exact defer_ok c
 | call c=>exact callK_ok c
 | _=>trivial
end Go.Ab.Fa
end
section
namespace Go.Ab.Fa
variable {E:Env} {F:RF} {n:Nat}
def FOk (_E:Env) (F:RF) (n:Nat) (o:FO F.T) (out:Out):Prop:=match o with
 | .nrm r h y=>out= .ok .normal ⟨toL F n r,h,y.ds,y.rc⟩
 | .jmp e r h y=>e≠ .normal∧out= .ok e ⟨toL F n r,h,y.ds,y.rc⟩
 | .bad=>True
theorem opA_pur {call:CallF} {s:St} {o:Oper} {v:AV} (h:pureA E s.ts o.op=some v):opA E call s o= .ok .normal {s with ts:=putT s.ts o.dst v}:=by
 simp only[opA,h]
theorem opA_red {call:CallF} {s:St} {o:Oper} {v:AV} (h0:pureA E s.ts o.op=none) (h:readA E s.ts s.h o.op=some v):opA E call s o= .ok .normal {s with ts:=putT s.ts o.dst v}:=by
 simp only[opA,h0,h]
theorem opA_eff {call:CallF} {s:St} {o:Oper} (nn:Nones E o.op):opA E call s o=(match effA E call s.ts s.h s.rc o with
 | .val v h'=> .ok .normal {s with ts:=putT s.ts o.dst v,h:=h'}
 | .defer d=> .ok .normal {s with ts:=putT s.ts o.dst AV.undef,ds:=d::s.ds}
 | .recov v=> .ok .normal {s with ts:=putT s.ts o.dst v,rc:= .done}
 | .panic v h'=> .ok (.panic v) {s with h:=h'}
 | .fail why q=> .fail why q):=by
 simp only[opA,nn.1,nn.2.1,nn.2.2]
 generalize effA E call s.ts s.h s.rc o=x
 cases x<;>rfl
noncomputable def contA (E:Env) (call:CallF) (ops:Array Oper) (rest:List Oper) (out:Out):Out:=match out with
 | .ok .normal s'=>opsA E call ops rest s'
 | r=>r
theorem seqK_ok {ops:Array Oper} {o:Oper} {rest:List Oper} {kd:Kd F.T} {s:AV→F.T→F.T} {j:I F.T} {fc call:CallF} (hle:CallLe fc call) (hk:KdOK E F n o.op kd)
 (hs:∀v r,putT (toL F n r) o.dst v=toL F n (s v r)) (hj:∀r h y,FOk E F n (j.run fc r h y) (opsA E call ops rest ⟨toL F n r,h,y.ds,y.rc⟩)) (r:F.T) (h:Heap) (y:Y):
 FOk E F n ((seqK kd s j).run fc r h y) (contA E call ops rest (opA E call ⟨toL F n r,h,y.ds,y.rc⟩ o)):=by
 cases kd with
 | tot g=>
   rw[opA_pur (s:=⟨toL F n r,h,y.ds,y.rc⟩) (hk r)]
   show FOk E F n (j.run fc (s (g r) r) h y) (opsA E call ops rest ⟨putT (toL F n r) o.dst (g r),h,y.ds,y.rc⟩)
   rw[hs];exact hj _ _ _
 | pur f=>
   show FOk E F n (ob .bad (fun v=>j.run fc (s v r) h y) (f r)) _
   cases hf:f r with
   | none=>trivial
   | some v=>
     rw[opA_pur (s:=⟨toL F n r,h,y.ds,y.rc⟩) (hk r v hf)]
     show FOk E F n (j.run fc (s v r) h y) (opsA E call ops rest ⟨putT (toL F n r) o.dst v,h,y.ds,y.rc⟩)
     rw[hs];exact hj _ _ _
 | red f=>
   show FOk E F n (ob .bad (fun v=>j.run fc (s v r) h y) (f r h)) _
   cases hf:f r h with
   | none=>trivial
   | some v=>
     rcases hk r h v hf with h0 | ⟨h0,h1⟩
     · rw[opA_pur (s:=⟨toL F n r,h,y.ds,y.rc⟩) h0]
       show FOk E F n (j.run fc (s v r) h y) (opsA E call ops rest ⟨putT (toL F n r) o.dst v,h,y.ds,y.rc⟩)
       rw[hs];exact hj _ _ _
     rw[opA_red (s:=⟨toL F n r,h,y.ds,y.rc⟩) h0 h1]
     show FOk E F n (j.run fc (s v r) h y) (opsA E call ops rest ⟨putT (toL F n r) o.dst v,h,y.ds,y.rc⟩)
     rw[hs];exact hj _ _ _
 | alc f=>
   obtain ⟨h0,h1,h2⟩:=hk
   show FOk E F n (ob .bad (fun p=>ob .bad (fun h'=>j.run fc (s (p.2 h.nx) r) h' y) (h.new p.1)) (f r)) _
   cases hf:f r with
   | none=>trivial
   | some p=>
     obtain ⟨obj,mk⟩:=p
     show FOk E F n (ob .bad (fun h'=>j.run fc (s (mk h.nx) r) h' y) (h.new obj)) _
     cases hh:h.new obj with
     | none=>trivial
     | some h'=>
       have:opA E call ⟨toL F n r,h,y.ds,y.rc⟩ o= .ok .normal ⟨putT (toL F n r) o.dst (mk h.nx),h',y.ds,y.rc⟩:=by
        simp only[opA,h0,h1,h2 r _ hf,hh]
       rw[this,hs];exact hj _ _ _
 | wr f=>
   obtain ⟨nn,h1⟩:=hk
   show FOk E F n (ob .bad (fun p=>j.run fc (s p.1 r) p.2 y) (f r h)) _
   cases hf:f r h with
   | none=>trivial
   | some p=>
     rw[opA_eff nn,h1 call r h y.rc o p rfl hf]
     show FOk E F n (j.run fc (s p.1 r) p.2 y) (opsA E call ops rest ⟨putT (toL F n r) o.dst p.1,p.2,y.ds,y.rc⟩)
     rw[hs];exact hj _ _ _
 | call g args=>
   obtain ⟨nn,h1⟩:=hk
   rw[opA_eff nn,h1 call r h y.rc o rfl]
   show FOk E F n (COut.rec (motive:=fun _=>FO F.T) (fun v h'=>j.run fc (s v r) h' y) (fun v h'=> .jmp (.panic v) r h' y) (fun _ _=> .bad) (fc g (args r) h)) _
   cases hc:fc g (args r) h with
   | fail _ _=>trivial
   | ret v h'=>
     rw[(hle _ _ _).1 v h' hc]
     show FOk E F n (j.run fc (s v r) h' y) (opsA E call ops rest ⟨putT (toL F n r) o.dst v,h',y.ds,y.rc⟩)
     rw[hs];exact hj _ _ _
   | panic v h'=>
     rw[(hle _ _ _).2 v h' hc]
     exact ⟨by simp,rfl⟩
 | eff f=>
   obtain ⟨nn,h1⟩:=hk
   rw[opA_eff nn]
   have h2:=h1 fc call hle r h y.rc o rfl
   show FOk E F n (EOut.rec (motive:=fun _=>FO F.T) (fun v h'=>j.run fc (s v r) h' y) (fun d=>j.run fc (s AV.undef r) h ⟨d::y.ds,y.rc⟩) (fun v=>j.run fc (s v r) h ⟨y.ds,.done⟩)
    (fun v h'=> .jmp (.panic v) r h' y) (fun _ _=> .bad) (f fc r h y.rc)) _
   cases he:f fc r h y.rc with
   | fail _ _=>trivial
   | val v h'=>
     rw[he] at h2
     have h2:effA E call (toL F n r) h y.rc o= .val v h':=h2
     rw[h2]
     show FOk E F n (j.run fc (s v r) h' y) (opsA E call ops rest ⟨putT (toL F n r) o.dst v,h',y.ds,y.rc⟩)
     rw[hs];exact hj _ _ _
   | defer d=>
     rw[he] at h2
     have h2:effA E call (toL F n r) h y.rc o= .defer d:=h2
     rw[h2]
     show FOk E F n (j.run fc (s AV.undef r) h ⟨d::y.ds,y.rc⟩) (opsA E call ops rest ⟨putT (toL F n r) o.dst AV.undef,h,d::y.ds,y.rc⟩)
     rw[hs];exact hj _ _ ⟨d::y.ds,y.rc⟩
   | recov v=>
     rw[he] at h2
     have h2:effA E call (toL F n r) h y.rc o= .recov v:=h2
     rw[h2]
     show FOk E F n (j.run fc (s v r) h ⟨y.ds,.done⟩) (opsA E call ops rest ⟨putT (toL F n r) o.dst v,h,y.ds,.done⟩)
     rw[hs];exact hj _ _ ⟨y.ds,.done⟩
   | panic v h'=>
     rw[he] at h2
     have h2:effA E call (toL F n r) h y.rc o= .panic v h':=h2
     rw[h2]
     exact ⟨by simp,rfl⟩
 | bad=>trivial
def wantAt (ts:List AV) (d:Nat) (want:Bool):Bool:=match ts[d]? with
 | some (.bool b)=>b==want
 | _=>false
theorem wantAt_none {ts:List AV} {d:Nat} (h:ts.length≤d) (want:Bool):wantAt ts d want=false:=by
 unfold wantAt;rw[List.getElem?_eq_none h]
theorem wantAt_some {ts:List AV} {d:Nat} {v:AV} (h:ts[d]? =some v) (want:Bool):wantAt ts d want=vBool (fun b=>b==want) false v:=by
 unfold wantAt;rw[h];cases v<;>rfl
theorem wanted_guard (ops:Array Oper) (ts:List AV) (o:Oper) {j:Nat} {want:Bool} (hg:o.guard=some (j,want)):wantedA ops ts o=(match (ops[j]?).bind (·.dst) with
 | some d=>match ts[d]? with
   | some (.bool b)=>b==want
   | _=>false
 | none=>false):=by simp only[wantedA,hg];rfl
theorem dst_at (ops:Array Oper) (j:Nat):ob none (fun p=>p.dst) (lnth ops.toList j)=(ops[j]?).bind (·.dst):=by
 rw[lnth_eq,Array.getElem?_toList];cases ops[j]? <;>rfl
theorem wantK_eq (_hn:n≤F.N) (ops:Array Oper) (o:Oper) (a b:I F.T) (call:CallF) (r:F.T) (h:Heap) (y:Y):
 (wantK F n ops o a b).run call r h y=bif wantedA ops (toL F n r) o then a.run call r h y else b.run call r h y:=by
 unfold wantK
 cases hg:o.guard with
 | none=>simp only[wantedA,hg];rfl
 | some p=>
   obtain ⟨j,want⟩:=p
   rw[wanted_guard ops _ o hg]
   simp only[dst_at]
   cases (ops[j]?).bind (·.dst) with
   | none=>rfl
   | some d=>
     show (bc (Nat.ble n d) b (guardK (F.get d).f want a b)).run call r h y=bif wantAt (toL F n r) d want then a.run call r h y else b.run call r h y
     cases hd:Nat.ble n d with
     | true=>
       rw[wantAt_none (by rw[toL_length];exact ble_le hd)];rfl
     | false=>
       rw[wantAt_some (toL_get F n r (ble_lt hd)),bc_false]
       cases want with
       | true=>
         show vBool (fun t=>bc t (a.run call r h y) (b.run call r h y)) (b.run call r h y) ((F.get d).f r)=_
         cases (F.get d).f r with
         | bool t=>cases t<;>rfl
         | _=>rfl
       | false=>
         show vBool (fun t=>bc t (b.run call r h y) (a.run call r h y)) (b.run call r h y) ((F.get d).f r)=_
         cases (F.get d).f r with
         | bool t=>cases t<;>rfl
         | _=>rfl
theorem dwant_eq (_hn:n≤F.N) (ops:Array Oper) (o:Oper) (a b:D F.T) (call:CallF) (r:F.T) (h:Heap) (y:Y):
 (dwant F n ops o a b).run call r h y=bif wantedA ops (toL F n r) o then a.run call r h y else b.run call r h y:=by
 unfold dwant
 cases hg:o.guard with
 | none=>simp only[wantedA,hg];rfl
 | some p=>
   obtain ⟨j,want⟩:=p
   rw[wanted_guard ops _ o hg]
   simp only[dst_at]
   cases (ops[j]?).bind (·.dst) with
   | none=>rfl
   | some d=>
     show (bc (Nat.ble n d) b (dguard (F.get d).f want a b)).run call r h y=bif wantAt (toL F n r) d want then a.run call r h y else b.run call r h y
     cases hd:Nat.ble n d with
     | true=>
       rw[wantAt_none (by rw[toL_length];exact ble_le hd)];rfl
     | false=>
       rw[wantAt_some (toL_get F n r (ble_lt hd)),bc_false]
       cases want with
       | true=>
         show vBool (fun t=>bc t (a.run call r h y) (b.run call r h y)) (b.run call r h y) ((F.get d).f r)=_
         cases (F.get d).f r with
         | bool t=>cases t<;>rfl
         | _=>rfl
       | false=>
         show vBool (fun t=>bc t (b.run call r h y) (a.run call r h y)) (b.run call r h y) ((F.get d).f r)=_
         cases (F.get d).f r with
         | bool t=>cases t<;>rfl
         | _=>rfl
theorem compOps_ok (hn:n≤F.N) {fc call:CallF} (hle:CallLe fc call) (ops:Array Oper):∀(l:List Oper) (r:F.T) (h:Heap) (y:Y),
 FOk E F n ((compOps E F n ops l).run fc r h y) (opsA E call ops l ⟨toL F n r,h,y.ds,y.rc⟩)
 | [],r,h,y=>rfl
 | o::rest,r,h,y=>by
   have ih:=compOps_ok hn hle ops rest
   show FOk E F n ((compO E F n ops o (compOps E F n ops rest)).run fc r h y) _
   unfold compO
   obtain ⟨s,h1,hs⟩:=wS_spec F n hn o.dst (fun s=>wantK F n ops o (seqK (compK E F n o.op) s (compOps E F n ops rest)) (skipK s (compOps E F n ops rest)))
   rw[h1,wantK_eq hn]
   rw[opsA]
   cases hw:wantedA ops (toL F n r) o with
   | true=>
     rw[if_pos rfl]
     exact seqK_ok hle (compK_ok o.op) hs ih r h y
   | false=>
     rw[if_neg (by simp)]
     show FOk E F n ((compOps E F n ops rest).run fc (s AV.undef r) h y) _
     simp only[hs]
     exact ih _ _ _
def madeOf:TK→Option Nat
 | .alc n _=>some n
 | _=>none
theorem madeIds_cons (x:Step) (t:List Step):madeIds (x::t)=match madeOf x.kind with | none=>madeIds t | some i=>i::madeIds t:=by
 show List.filterMap (fun x:Step=>madeOf x.kind) (x::t)=_
 rw[List.filterMap_cons];cases madeOf x.kind<;>rfl
inductive TrRel (E:Env) (ops:Array Oper) (pl:Plan):List Chk→List Step→Prop
 | nil:TrRel E ops pl [] []
 | skip {x:Step} {c:List Chk} {t:List Step} (hs:∀h,stillS E ops x h=true) (hm:madeOf x.kind=none) (ht:TrRel E ops pl c t):TrRel E ops pl c (x::t)
 | chk {x:Step} {c0:Chk} {c:List Chk} {t:List Step} (hk:c0.k=x.k) (hl:c0.m=latest pl.effs pl.an x.i+1 - x.k) (hm:madeOf x.kind=c0.made)
  (hs:∀h,c0.f h=true→stillS E ops x h=true) (ht:TrRel E ops pl c t):TrRel E ops pl (c0::c) (x::t)
theorem TrRel.made {ops:Array Oper} {pl:Plan} {c:List Chk} {t:List Step} (h:TrRel E ops pl c t):madeF c=madeIds t:=by
 induction h with
 | nil=>rfl
 | skip hs hm ht ih=>rw[madeIds_cons,hm];exact ih
 | chk hk hl hm hs ht ih=>
   rename_i x c0 c t
   show ob (madeF c) (fun i=>i::madeF c) c0.made=_
   rw[madeIds_cons,hm,ih]
   cases c0.made<;>rfl
theorem TrRel.all {ops:Array Oper} {pl:Plan} {hs:List Heap} {c:List Chk} {t:List Step} (h:TrRel E ops pl c t) (e:c.all (fun x=>lall x.f (ltake (ldrop hs x.k) x.m))=true):
 t.all (fun x=>((hs.drop x.k).take (latest pl.effs pl.an x.i+1 - x.k)).all (stillS E ops x))=true:=by
 induction h with
 | nil=>rfl
 | skip hs' hm ht ih=>
   rw[List.all_cons,ih e,Bool.and_true,List.all_eq_true]
   intro h _;exact hs' h
 | chk hk hl hm hs' ht ih=>
   rw[List.all_cons,Bool.and_eq_true] at e
   rw[List.all_cons,ih e.2,Bool.and_true,List.all_eq_true]
   have e1:=e.1
   rw[lall_eq,ltake_eq,ldrop_eq,List.all_eq_true,hk,hl] at e1
   intro h hh;exact hs' h (e1 h hh)
theorem lastlyF_ok {ops:Array Oper} {pl:Plan} {hs:List Heap} {c:List Chk} {t:List Step} (h:TrRel E ops pl c t) (e:lastlyF c hs=true):lastly E ops pl t hs=true:=by
 unfold lastlyF at e
 rw[bc_and,Bool.and_eq_true,nodupF_eq,lall_eq,h.made] at e
 unfold lastly
 rw[Bool.and_eq_true]
 exact ⟨e.1,h.all e.2⟩
def DOk (E:Env) (F:RF) (n:Nat) (ops:Array Oper) (pl:Plan) (d:DO F.T) (t:TOut):Prop:=match d with
 | .ok tr hs r h y=>∃tr',t= .ok tr' hs ⟨toL F n r,h,y.ds,y.rc⟩∧TrRel E ops pl tr tr'
 | .bad=>True
theorem DOk.skip {ops:Array Oper} {pl:Plan} {d:DO F.T} {t:TOut} (h:DOk E F n ops pl d t) {x:Step} (hs:∀h,stillS E ops x h=true) (hm:madeOf x.kind=none):DOk E F n ops pl d (t.step x):=by
 cases d with
 | bad=>trivial
 | ok tr hs' r h' y=>
   obtain ⟨tr',rfl,h2⟩:=h
   exact ⟨x::tr',rfl,.skip hs hm h2⟩
theorem DOk.bound {ops:Array Oper} {pl:Plan} {d:DO F.T} {t:TOut} (h:DOk E F n ops pl d t) (h0:Heap):DOk E F n ops pl (dbound h0 d) (t.bound h0):=by
 cases d with
 | bad=>trivial
 | ok tr hs' r h' y=>
   obtain ⟨tr',rfl,h2⟩:=h
   exact ⟨tr',rfl,h2⟩
theorem DOk.chk {ops:Array Oper} {pl:Plan} {d:DO F.T} {t:TOut} (h:DOk E F n ops pl d t) {x:Step} {c:Chk} (hk:c.k=x.k) (hl:c.m=latest pl.effs pl.an x.i+1 - x.k)
 (hm:madeOf x.kind=c.made) (hs:∀h,c.f h=true→stillS E ops x h=true):DOk E F n ops pl (dstep c d) (t.step x):=by
 cases d with
 | bad=>trivial
 | ok tr hs' r h' y=>
   obtain ⟨tr',rfl,h2⟩:=h
   exact ⟨x::tr',rfl,.chk hk hl hm hs h2⟩
theorem sameF_ok:∀(m:Nat) (x y:AV),sameF m x y=true→AV.same m x y=true
 | 0,_,_,e=>by cases e
 | m+1,x,y,e=>by
   have ih:=sameF_ok m
   have all:∀(a b:List AV),leq (sameF m) a b=true→listAll2 (AV.same m) a b=true:=by
    intro a
    induction a with
    | nil=>intro b;cases b<;>intro e<;>first | rfl | cases e
    | cons x tl ihl=>
      intro b
      cases b with
      | nil=>intro e;cases e
      | cons y tm=>
        intro e
        have e:bc (sameF m x y) (leq (sameF m) tl tm) false=true:=e
        rw[bc_and,Bool.and_eq_true] at e
        rw[listAll2,Bool.and_eq_true]
        exact ⟨ih _ _ e.1,ihl _ e.2⟩
   cases x with
   | int k a=>cases y with
     | int j b=>
       have e:bc (kbeq k j) (ieq a b) false=true:=e
       rw[bc_and,Bool.and_eq_true,ieq_eq] at e
       rw[AV.same,kbeq_of e.1,e.2];simp
     | _=>cases e
   | str a=>cases y with
     | str b=>
       have e:leq u8eq a b=true:=e
       rw[leq_eq] at e
       rw[AV.same];exact e
     | _=>cases e
   | ptr i o=>cases y with
     | ptr j p=>
       have e:bc (Nat.beq i j) (Nat.beq o p) false=true:=e
       rw[bc_and,Bool.and_eq_true] at e
       rw[AV.same,beq_of e.1,beq_of e.2];simp
     | _=>cases e
   | bool a=>cases y with
     | bool b=>
       have e:bc a b (bnot b)=true:=e
       rw[AV.same]
       cases a<;>cases b<;>first | rfl | cases e
     | _=>cases e
   | agg a=>cases y with
     | agg b=>rw[AV.same];exact all a b e
     | _=>cases e
   | _=>exact e
theorem compD_ok (hn:n≤F.N) {fc call:CallF} (hle:CallLe fc call) (ops:Array Oper) (pl:Plan):∀(l:List Nat) (k:Nat) (r:F.T) (h:Heap) (y:Y),
 DOk E F n ops pl ((compD E F n ops pl l k).run fc r h y) (drawT E call ops l k ⟨toL F n r,h,y.ds,y.rc⟩)
 | [],k,r,h,y=>⟨[],rfl,.nil⟩
 | i::rest,k,r,h,y=>by
   have ih:=compD_ok hn hle ops pl rest
   rw[drawT]
   show DOk E F n ops pl (D.run (ob ⟨fun _ _ _ _=> .bad⟩ (fun o=>wS F n o.dst fun s=>
    bc (effBF E o.op) (canon (k+1) fun k'=>dwant F n ops o (dseqE (compK E F n o.op) s (compD E F n ops pl rest k')) (dskipE s (compD E F n ops pl rest k')))
     (canon (latestF pl.effs pl.an i+1 - k) fun m=>dwant F n ops o (dseqN k m (compK E F n o.op) s (compD E F n ops pl rest k)) (dskip s (compD E F n ops pl rest k)))) (lnth ops.toList i)) fc r h y) _
   rw[lnth_eq,Array.getElem?_toList]
   cases ho:ops[i]? with
   | none=>trivial
   | some o=>
     have hget:(ops.getD i default).op=o.op:=by rw[Array.getD_eq_getD_getElem?,ho];rfl
     simp only[ob_some,canon_eq,effBF_eq,latestF_eq]
     obtain ⟨s,h1,hs⟩:=wS_spec F n hn o.dst (fun s=>
      bc (effB E o.op) (dwant F n ops o (dseqE (compK E F n o.op) s (compD E F n ops pl rest (k+1))) (dskipE s (compD E F n ops pl rest (k+1))))
      (dwant F n ops o (dseqN k (latest pl.effs pl.an i+1 - k) (compK E F n o.op) s (compD E F n ops pl rest k)) (dskip s (compD E F n ops pl rest k))))
     rw[h1]
     have hk:=compK_ok (E:=E) (F:=F) (n:=n) o.op
     generalize compK E F n o.op=kd at hk
     cases he:effB E o.op with
     | true=>
       rw[bc_true,dwant_eq hn,if_pos rfl]
       cases hw:wantedA ops (toL F n r) o with
       | false=>
         rw[if_neg (by simp)]
         show DOk E F n ops pl (dbound h ((compD E F n ops pl rest (k+1)).run fc (s AV.undef r) h y)) _
         simp only[hs]
         exact ((ih _ _ _ _).bound h).skip (fun _=>rfl) rfl
       | true=>
         rw[if_pos rfl]
         show DOk E F n ops pl ((dseqE kd s (compD E F n ops pl rest (k+1))).run fc r h y) _
         cases kd with
         | wr f=>
           show DOk E F n ops pl (ob .bad (fun p=>dbound h ((compD E F n ops pl rest (k+1)).run fc (s p.1 r) p.2 y)) (f r h)) _
           cases hf:f r h with
           | none=>trivial
           | some p=>
             simp only[hk.2 call r h y.rc o p rfl hf,hs]
             exact ((ih _ _ _ _).bound h).skip (fun _=>rfl) rfl
         | call g args=>
           show DOk E F n ops pl (COut.rec (motive:=fun _=>DO F.T) (fun v h'=>dbound h ((compD E F n ops pl rest (k+1)).run fc (s v r) h' y)) (fun _ _=> .bad) (fun _ _=> .bad) (fc g (args r) h)) _
           cases hc:fc g (args r) h with
           | fail _ _=>trivial
           | panic _ _=>trivial
           | ret v h'=>
             simp only[hk.2 call r h y.rc o rfl,(hle _ _ _).1 v h' hc,fromC,hs]
             exact ((ih _ _ _ _).bound h).skip (fun _=>rfl) rfl
         | eff f=>
           show DOk E F n ops pl (EOut.rec (motive:=fun _=>DO F.T) (fun v h'=>dbound h ((compD E F n ops pl rest (k+1)).run fc (s v r) h' y)) (fun _=> .bad) (fun _=> .bad) (fun _ _=> .bad) (fun _ _=> .bad) (f fc r h y.rc)) _
           have h2:=hk.2 fc call hle r h y.rc o rfl
           cases hf:f fc r h y.rc with
           | val v h'=>
             rw[hf] at h2
             have h2:effA E call (toL F n r) h y.rc o= .val v h':=h2
             simp only[h2,hs]
             exact ((ih _ _ _ _).bound h).skip (fun _=>rfl) rfl
           | _=>trivial
         | _=>trivial
     | false=>
       rw[bc_false,dwant_eq hn,if_neg (by simp)]
       cases hw:wantedA ops (toL F n r) o with
       | false=>
         rw[if_neg (by simp)]
         show DOk E F n ops pl ((compD E F n ops pl rest k).run fc (s AV.undef r) h y) _
         simp only[hs]
         exact (ih _ _ _ _).skip (fun _=>rfl) rfl
       | true=>
         rw[if_pos rfl]
         show DOk E F n ops pl ((dseqN k (latest pl.effs pl.an i+1 - k) kd s (compD E F n ops pl rest k)).run fc r h y) _
         cases kd with
         | tot g=>
           simp only[hk r,hs]
           exact (ih _ _ _ _).skip (fun _=>rfl) rfl
         | pur f=>
           show DOk E F n ops pl (ob .bad (fun v=>(compD E F n ops pl rest k).run fc (s v r) h y) (f r)) _
           cases hf:f r with
           | none=>trivial
           | some v=>
             simp only[hk r v hf,hs]
             exact (ih _ _ _ _).skip (fun _=>rfl) rfl
         | red f=>
           show DOk E F n ops pl (ob .bad (fun v=>dstep ⟨k,_,none,fun h'=>ob false (fun v'=>sameF 20 v' v) (f r h')⟩ ((compD E F n ops pl rest k).run fc (s v r) h y)) (f r h)) _
           cases hf:f r h with
           | none=>trivial
           | some v=>
             rcases hk r h v hf with q0 | ⟨q0,q1⟩
             · simp only[q0,hs]
               exact (ih _ _ _ _).chk rfl rfl rfl fun h' _=>rfl
             simp only[q0,q1,hs]
             refine (ih _ _ _ _).chk rfl rfl rfl fun h' e=>?_
             have e:ob false (fun v'=>sameF 20 v' v) (f r h')=true:=e
             cases hf':f r h' with
             | none=>rw[hf'] at e;cases e
             | some v'=>
               rw[hf'] at e
               rcases hk r h' v' hf' with q2 | ⟨_,q3⟩
               · rw[q0] at q2;cases q2
               simp only[stillS,hget,q3]
               exact sameF_ok 20 v' v e
         | alc f=>
           obtain ⟨h3,h4,h5⟩:=hk
           show DOk E F n ops pl (ob .bad (fun p=>ob .bad (fun h'=>dstep ⟨k,_,some h.nx,fun h''=>ob false (fun o=>AObj.same o p.1) (h''.get h.nx)⟩ ((compD E F n ops pl rest k).run fc (s (p.2 h.nx) r) h' y)) (h.new p.1)) (f r)) _
           cases hf:f r with
           | none=>trivial
           | some p=>
             obtain ⟨obj,mk⟩:=p
             show DOk E F n ops pl (ob .bad (fun h'=>dstep ⟨k,_,some h.nx,fun h''=>ob false (fun o=>AObj.same o obj) (h''.get h.nx)⟩ ((compD E F n ops pl rest k).run fc (s (mk h.nx) r) h' y)) (h.new obj)) _
             cases hh:h.new obj with
             | none=>trivial
             | some h'=>
               simp only[h3,h4,h5 r _ hf,hh,hs]
               refine (ih _ _ _ _).chk rfl rfl rfl fun h'' e=>?_
               have e:ob false (fun o=>AObj.same o obj) (h''.get h.nx)=true:=e
               cases hf':h''.get h.nx with
               | none=>rw[hf'] at e;cases e
               | some o'=>
                 rw[hf'] at e
                 simp only[stillS,hf']
                 exact e
         | _=>trivial
theorem effA_pan {fc call:CallF} (hle:CallLe fc call) {ts:List AV} {h h':Heap} {rc:RC} {dst:Option Tmp} {c:Call} {ty:TypeId} {pos:String} {after:Array Edge} {guard:Option (Nat×Bool)} {v:AV} (e:effA E fc ts h rc ⟨dst,.call c,ty,pos,after,guard⟩= .panic v h'):
 effA E call ts h rc ⟨dst,.call c,ty,pos,after,guard⟩= .panic v h':=by
 obtain ⟨cal,args,aT⟩:=c
 cases cal with
 | builtin b=>
   cases b<;>simp only[effA] at e<;>(try (simp at e;done))<;>(split at e<;>(try (simp at e;done))<;>(try (split at e<;>simp at e)))
 | value f=>
   simp only[effA] at e ⊢
   split at e
   · split at e
     · split at e<;>simp at e
     · split at e
       · simp at e
       · rename_i hc
         simp at e;obtain ⟨rfl,rfl⟩:=e
         simp only[(hle _ _ _).2 _ _ hc]
       · simp at e
   · simp at e
 | invoke x name=>
   simp only[effA] at e ⊢
   split at e
   · split at e
     · split at e
       · simp at e
       · rename_i hc
         simp at e;obtain ⟨rfl,rfl⟩:=e
         simp only[(hle _ _ _).2 _ _ hc]
       · simp at e
     · simp at e
   · simp at e
theorem TrRel.snoc {ops:Array Oper} {pl:Plan} {c:List Chk} {t:List Step} (h:TrRel E ops pl c t) {x:Step} (hs:∀h,stillS E ops x h=true) (hm:madeOf x.kind=none):TrRel E ops pl c (t++[x]):=by
 induction h with
 | nil=>exact .skip hs hm .nil
 | skip a b _ ih=>exact .skip a b ih
 | chk a b d e _ ih=>exact .chk a b d e ih
theorem panF_ok (hn:n≤F.N) {fc call:CallF} (hle:CallLe fc call) (ops:Array Oper) (pl:Plan) (r:F.T) (h:Heap) (y:Y):
 FOk E F n (panF E F n ops pl fc r h y) (match drawT E call ops pl.order 0 ⟨toL F n r,h,y.ds,y.rc⟩ with
  | .ok tr hs s'=>if lastly E ops pl tr hs then .ok .normal s' else .fail "still" (ops[0]?)
  | .fail why o=>match panicA E call ops ⟨toL F n r,h,y.ds,y.rc⟩ pl with
    | some (v,s2)=> .ok (.panic v) s2
    | none=> .fail why o):=by
 unfold panF
 split
 · trivial
 rename_i i front hrev
 split
 · rename_i tr hs r1 h1 y1 dst c ty pos after guard hd ho
   split
   · rename_i v h' hck hef
     split
     · rename_i hl
       have hk:=compD_ok (E:=E) hn hle ops pl front.reverse 0 r h y
       rw[hd] at hk
       obtain ⟨tr',e1,e2⟩:=hk
       have hord:pl.order=front.reverse++[i]:=by
        have:=congrArg List.reverse hrev
        simpa using this
       have hef':=effA_pan hle hef
       have hck':=hck
       simp only[Bool.and_eq_true] at hck'
       obtain ⟨why,q,e3⟩:=drawT_pan ho hck'.1.1 front.reverse 0 _ e1 hck'.1.2 hef'
       rw[hord,e3]
       have hpan:panicA E call ops ⟨toL F n r,h,y.ds,y.rc⟩ pl=some (v,⟨toL F n r1,h',y1.ds,y1.rc⟩):=by
        unfold panicA
        rw[hrev]
        simp only[e1,ho,hck,if_true,hef']
        rw[if_pos (lastlyF_ok (e2.snoc (fun _=>rfl) rfl) hl)]
       simp only[hpan]
       exact ⟨by simp,rfl⟩
     · trivial
   · trivial
 · trivial
theorem drawK_ok (hn:n≤F.N) {fc call:CallF} (hle:CallLe fc call) (ops:Array Oper) (r:F.T) (h:Heap) (y:Y):
 FOk E F n ((drawK E F n ops).run fc r h y) (drawA E call ops ⟨toL F n r,h,y.ds,y.rc⟩):=by
 unfold drawK drawA
 rw[planK_eq]
 cases planOf E ops with
 | none=>trivial
 | some pl=>
   show FOk E F n (DO.rec (motive:=fun _=>FO F.T) (fun tr hs r' h' y'=>bc (lastlyF tr hs) (.nrm r' h' y') .bad) (panF E F n ops pl fc r h y) ((compD E F n ops pl pl.order 0).run fc r h y)) _
   have:=compD_ok (E:=E) hn hle ops pl pl.order 0 r h y
   cases hd:(compD E F n ops pl pl.order 0).run fc r h y with
   | bad=>exact panF_ok hn hle ops pl r h y
   | ok tr hs r' h' y'=>
     rw[hd] at this
     obtain ⟨tr',h1,h2⟩:=this
     show FOk E F n (bc (lastlyF tr hs) (.nrm r' h' y') .bad) _
     cases hl:lastlyF tr hs with
     | false=>trivial
     | true=>
       simp only[h1]
       rw[if_pos (lastlyF_ok h2 hl)]
       rfl
end Go.Ab.Fa
end
section
namespace Go.Ab.Fa
variable {E:Env} {F:RF} {n:Nat}
theorem rangeA_mono {fc call:CallF} (hle:CallLe fc call) {f:Operand} {ps:Array Tmp} {as bd:Code} {s:St} {e:AEx} {s':St} (h:rangeA E fc f ps as bd s= .ok e s'):rangeA E call f ps as bd s= .ok e s':=by
 unfold rangeA at h ⊢
 split at h
 case h_2=>cases h
 rename_i g first captured hv
 split at h
 case h_2=>cases h
 rename_i dn h1 ds1 ho
 split at h
 case h_2=>cases h
 rename_i h2 hn
 cases hc:fc (.fn g) (first++[.yieldF h1.nx]++captured) h2 with
 | ret v h3=>rw[hc] at h;rw[(hle _ _ _).1 _ _ hc];exact h
 | panic v h3=>rw[hc] at h;rw[(hle _ _ _).2 _ _ hc];exact h
 | fail why q=>rw[hc] at h;cases h
theorem rangeA_ts {call:CallF} {f:Operand} {ps:Array Tmp} {as bd:Code} {s:St} {e:AEx} {s':St} (h:rangeA E call f ps as bd s= .ok e s'):s'.ts=s.ts:=by
 unfold rangeA at h
 split at h
 case h_2=>cases h
 split at h
 case h_2=>cases h
 split at h
 case h_2=>cases h
 split at h
 · split at h
   · cases h
   · split at h
     · simp only[Out.ok.injEq] at h;rw[←h.2]
     · cases h
   · cases h
 · simp only[Out.ok.injEq] at h;rw[←h.2]
 · cases h
theorem fo_seq {o:FO F.T} {out:Out} (h:FOk E F n o out) {k:F.T→Heap→Y→FO F.T} {g:St→Out} (hk:∀r h y,FOk E F n (k r h y) (g ⟨toL F n r,h,y.ds,y.rc⟩)):
 FOk E F n (fo k .jmp .bad o) (match (generalizing:=false) out with | .ok .normal s'=>g s' | r=>r):=by
 cases o with
 | nrm r h' y=>rw[show out=_ from h];exact hk r h' y
 | jmp e r h' y=>
   obtain ⟨h1,h2⟩:=h
   rw[h2]
   cases e with
   | normal=>exact absurd rfl h1
   | _=>exact ⟨by simp,rfl⟩
 | bad=>trivial
theorem compC_ok (hn:n≤F.N) {fc call:CallF} (hle:CallLe fc call):∀(c:Code) (m:Nat) (r:F.T) (h:Heap) (y:Y),
 FOk E F n ((compC E F n c).run m fc r h y) (exec E call m c ⟨toL F n r,h,y.ds,y.rc⟩)
 | .skip,m,r,h,y=>by cases m with
   | zero=>trivial
   | succ m=>exact rfl
 | .label _,m,r,h,y=>by cases m with
   | zero=>trivial
   | succ m=>exact rfl
 | .ret,m,r,h,y=>by cases m with
   | zero=>trivial
   | succ m=>exact ⟨by simp,rfl⟩
 | .exit id,m,r,h,y=>by cases m with
   | zero=>trivial
   | succ m=>exact ⟨by simp,rfl⟩
 | .region _ ops draw,m,r,h,y=>by
   cases m with
   | zero=>cases draw<;>trivial
   | succ m=>cases draw with
     | true=>exact drawK_ok hn hle ops r h y
     | false=>exact compOps_ok hn hle ops ops.toList r h y
 | .seq a b,m,r,h,y=>by cases m with
   | zero=>trivial
   | succ m=>
     have h1:=compC_ok hn hle a m r h y
     have h2:=compC_ok hn hle b m
     exact fo_seq h1 (g:=fun s'=>exec E call m b s') h2
 | .cond x a b,m,r,h,y=>by
   have ha:=compC_ok hn hle a
   have hb:=compC_ok hn hle b
   show FOk E F n (C.run (wO E F n x (fun g=>⟨fun m call r h y=>nS .bad (fun i=>vBool (fun t=>bc t ((compC E F n a).run i call r h y) ((compC E F n b).run i call r h y)) .bad (g r)) m⟩) ⟨fun _ _ _ _ _=> .bad⟩) m fc r h y) _
   rcases wO_spec E F n x (fun g=>(⟨fun m call r h y=>nS .bad (fun i=>vBool (fun t=>bc t ((compC E F n a).run i call r h y) ((compC E F n b).run i call r h y)) .bad (g r)) m⟩:C F.T)) ⟨fun _ _ _ _ _=> .bad⟩ with hw | ⟨g,hw,hg⟩<;>rw[hw]
   · trivial
   cases m with
   | zero=>trivial
   | succ m=>
     show FOk E F n (vBool (fun t=>bc t ((compC E F n a).run m fc r h y) ((compC E F n b).run m fc r h y)) .bad (g r)) _
     rw[exec]
     simp only[hg]
     cases g r with
     | bool t=>cases t with
       | true=>exact ha m r h y
       | false=>exact hb m r h y
     | _=>trivial
 | .block id b,m,r,h,y=>by cases m with
   | zero=>trivial
   | succ m=>
     have hb:=compC_ok hn hle b m r h y
     show FOk E F n (fo .nrm (fun e r' h' y'=>exitId (fun j=>bc (Nat.beq j id) (.nrm r' h' y') (.jmp e r' h' y')) (.jmp e r' h' y') e) .bad ((compC E F n b).run m fc r h y)) _
     rw[exec]
     cases hr:(compC E F n b).run m fc r h y with
     | bad=>trivial
     | nrm r' h' y'=>
       rw[hr] at hb
       have hb:exec E call m b _= .ok .normal ⟨toL F n r',h',y'.ds,y'.rc⟩:=hb
       rw[hb];exact rfl
     | jmp e r' h' y'=>
       rw[hr] at hb
       obtain ⟨h1,h2⟩:=hb
       rw[h2]
       cases e with
       | normal=>exact absurd rfl h1
       | exit j=>
         show FOk E F n (bc (Nat.beq j id) (.nrm r' h' y') (.jmp (.exit j) r' h' y')) (if j=id then _ else _)
         cases hj:Nat.beq j id with
         | true=>rw[if_pos (beq_of hj)];exact rfl
         | false=>rw[if_neg (by intro e;rw[e,Nat.beq_refl] at hj;cases hj)];exact ⟨by simp,rfl⟩
       | ret=>exact ⟨by simp,rfl⟩
       | panic v=>exact ⟨by simp,rfl⟩
 | .loop b,m,r,h,y=>by
   have hb:=compC_ok hn hle b
   show FOk E F n (loopR (compC E F n b) m fc r h y) _
   induction m generalizing r h y with
   | zero=>trivial
   | succ m ih=>
     show FOk E F n (fo (fun r' h' y'=>loopR (compC E F n b) m fc r' h' y') .jmp .bad ((compC E F n b).run m fc r h y)) _
     exact fo_seq (hb m r h y) (g:=fun s'=>exec E call m (.loop b) s') ih
 | .rangeFunc f ps as bd,m,r,h,y=>by
   show FOk E F n ((regK (rangeK E F n f ps as bd)).run m fc r h y) _
   cases m with
   | zero=>trivial
   | succ m=>
     show FOk E F n ((rangeK E F n f ps as bd).run fc r h y) (rangeA E call f ps as bd ⟨toL F n r,h,y.ds,y.rc⟩)
     unfold rangeK
     rcases wO_spec E F n f (fun _=>(⟨fun call r h y=>ofOut r (rangeA E call f ps as bd ⟨toL F n r,h,y.ds,y.rc⟩)⟩:I F.T)) ⟨fun _ _ _ _=> .bad⟩ with hw | ⟨g,hw,_⟩<;>rw[hw]
     · trivial
     simp only
     cases hr:rangeA E fc f ps as bd ⟨toL F n r,h,y.ds,y.rc⟩ with
     | fail _ _=>trivial
     | ok e s=>
       rw[rangeA_mono hle hr]
       have ht:=rangeA_ts hr
       obtain ⟨ts,hh,ds,rc⟩:=s
       simp only at ht
       subst ht
       cases e with
       | normal=>exact rfl
       | _=>exact ⟨by simp,rfl⟩
 | .scope _,m,r,h,y=>trivial
 | .goto _,m,r,h,y=>trivial
 | .refuse _,m,r,h,y=>trivial
theorem resK_ok:∀(l:List ResultVar) (r:F.T) (h:Heap) (vs:List AV),(resK E F n l).f r h=some vs→resA E h (toL F n r) l=some vs
 | [],r,h,vs,e=>e
 | .tmp t::rest,r,h,vs,e=>by
   rw[resK] at e
   obtain ⟨g,h1,h2⟩:=wT_spec F n t (fun g=>wW (resK E F n rest) fun k=>(⟨fun r h=>ob none (fun vs=>some (g r::vs)) (k r h)⟩:W (F.T→Heap→Option (List AV))))
   rw[h1] at e
   obtain ⟨vs',h3,h4⟩:=ob_opt (show ob none (fun vs=>some (g r::vs)) ((resK E F n rest).f r h)=some vs from e)
   rw[resA]
   simp only[h2,resK_ok rest r h vs' h3]
   exact h4
 | .cell a t::rest,r,h,vs,e=>by
   rw[resK] at e
   obtain ⟨g,h1,h2⟩:=wT_spec F n a (fun g=>wW (resK E F n rest) fun k=>(⟨fun r h=>ob none (fun v=>ob none (fun vs=>some (v::vs)) (k r h)) (loadA E h t (g r))⟩:W (F.T→Heap→Option (List AV))))
   rw[h1] at e
   obtain ⟨v,h3,h4⟩:=ob_opt (show ob none (fun v=>ob none (fun vs=>some (v::vs)) ((resK E F n rest).f r h)) (loadA E h t (g r))=some vs from e)
   obtain ⟨vs',h5,h6⟩:=ob_opt h4
   rw[resA]
   simp only[h2,h3,resK_ok rest r h vs' h5]
   exact h6
def BOk (E:Env) (rs:List ResultVar) (b:BO) (out:Out):Prop:=match b with
 | .fin res h y=>∃e ts,(e= .normal∨e= .ret)∧out= .ok e ⟨ts,h,y.ds,y.rc⟩∧∀h' vs,res h'=some vs→resA E h' ts rs=some vs
 | .pan v res h y=>∃ts,out= .ok (.panic v) ⟨ts,h,y.ds,y.rc⟩∧∀h' vs,res h'=some vs→resA E h' ts rs=some vs
 | .bad=>True
theorem bodyK_ok {fc call:CallF} (hle:CallLe fc call) (F:RF) (fn:Func) (hn:fn.ntmps≤F.N) (b:Code) (fuel:Nat) (args:List AV) (h:Heap) (rc:RC):
 BOk E fn.results.toList ((bodyK E F fn.ntmps fn b).run fuel fc args h rc) (bodyA E call fuel fn b args h rc):=by
 show BOk E _ (bc (Nat.ble (llen args) fn.ntmps)
  (fo (fun r h' y=> .fin ((resK E F fn.ntmps fn.results.toList).f r) h' y) (fun e r h' y=>AEx.rec (motive:=fun _=>BO) .bad (fun _=> .bad) (.fin ((resK E F fn.ntmps fn.results.toList).f r) h' y) (fun v=> .pan v ((resK E F fn.ntmps fn.results.toList).f r) h' y) e) .bad
   ((compC E F fn.ntmps b).run fuel fc (ofL F args F.z 0) h ⟨[],rc⟩)) .bad) _
 cases hl:Nat.ble (llen args) fn.ntmps with
 | false=>trivial
 | true=>
   have hl:=ble_le hl
   rw[llen_eq] at hl
   have:=compC_ok (E:=E) hn hle b fuel (ofL F args F.z 0) h ⟨[],rc⟩
   rw[toL_ofL F fn.ntmps hn args hl] at this
   rw[bc_true]
   unfold bodyA
   cases hr:(compC E F fn.ntmps b).run fuel fc (ofL F args F.z 0) h ⟨[],rc⟩ with
   | bad=>trivial
   | nrm r h' y=>
     rw[hr] at this
     exact ⟨.normal,_,.inl rfl,this,fun h'' vs e=>resK_ok _ r h'' vs e⟩
   | jmp e r h' y=>
     rw[hr] at this
     obtain ⟨h1,h2⟩:=this
     cases e with
     | normal=>exact absurd rfl h1
     | exit _=>trivial
     | ret=>exact ⟨.ret,_,.inr rfl,h2,fun h'' vs e=>resK_ok _ r h'' vs e⟩
     | panic v=>exact ⟨_,h2,fun h'' vs e=>resK_ok _ r h'' vs e⟩
theorem compF_ok {fc call:CallF} (hle:CallLe fc call) (f:FuncId) (fuel:Nat) (args:List AV) (h:Heap) (rc:RC):
 (compF E f).run fuel fc args h rc= .bad∨∃fn b,E.P.funcs[f]? =some fn∧fn.body=some b∧BOk E fn.results.toList ((compF E f).run fuel fc args h rc) (bodyA E call fuel fn b args h rc):=by
 unfold compF
 rw[funF_eq]
 cases hf:E.P.funcs[f]? with
 | none=>exact .inl rfl
 | some fn=>
   simp only
   cases hb:fn.body with
   | none=>exact .inl rfl
   | some b=>
     refine .inr ⟨fn,b,rfl,hb,?_⟩
     simp only
     cases h1:Nat.ble fn.ntmps 64 with
     | true=>exact bodyK_ok hle rf2 fn (ble_le h1) b fuel args h rc
     | false=>cases h2:Nat.ble fn.ntmps 512 with
       | true=>exact bodyK_ok hle rf3 fn (ble_le h2) b fuel args h rc
       | false=>trivial
theorem execL_ok {fc call:CallF} (hle:CallLe fc call) {fuel:Nat} {c:Code} {s:St} {e:AEx} {s':St} (h:execL E fc fuel c s= .ok e s'):exec E call fuel c s= .ok e s':=by
 have key:∀F:RF,s.ts.length≤F.N→execK E F fc fuel c s= .ok e s'→exec E call fuel c s= .ok e s':=by
  intro F hn hx
  have:=compC_ok (E:=E) hn hle c fuel (ofL F s.ts F.z 0) s.h ⟨s.ds,s.rc⟩
  rw[toL_ofL F s.ts.length hn s.ts (Nat.le_refl _),Nat.sub_self,List.replicate_zero,List.append_nil] at this
  unfold execK at hx
  cases hr:(compC E F s.ts.length c).run fuel fc (ofL F s.ts F.z 0) s.h ⟨s.ds,s.rc⟩ with
  | bad=>rw[hr] at hx;cases hx
  | nrm r h' y=>rw[hr] at hx this;rw[show exec E call fuel c s=_ from this];exact hx
  | jmp e' r h' y=>rw[hr] at hx this;rw[show exec E call fuel c s=_ from this.2];exact hx
 unfold execL at h
 cases h1:Nat.ble s.ts.length 64 with
 | true=>rw[h1] at h;exact key rf2 (ble_le h1) h
 | false=>cases h2:Nat.ble s.ts.length 512 with
   | true=>rw[h1,h2] at h;exact key rf3 (ble_le h2) h
   | false=>rw[h1,h2] at h;cases h
noncomputable def callDA (E:Env) (call:CallF) (fuel:Nat) (g:FuncId) (as:List AV) (h:Heap) (rc:RC):Option (Heap×RC):=match E.P.funcs[g]? with
 | none=>none
 | some fg=>match fg.body with
   | none=>none
   | some bg=>match bodyA E call fuel fg bg as h rc with
     | .ok .normal s'=>if s'.ds.isEmpty&&(resA E s'.h s'.ts fg.results.toList).isSome then some (s'.h,s'.rc) else none
     | .ok .ret s'=>if s'.ds.isEmpty&&(resA E s'.h s'.ts fg.results.toList).isSome then some (s'.h,s'.rc) else none
     | _=>none
theorem callD_le {fc call:CallF} (hle:CallLe fc call) {fuel:Nat} {g:FuncId} {as:List AV} {h:Heap} {rc:RC} {p:Heap×RC} (e:callD E fc fuel g as h rc=some p):callDA E call fuel g as h rc=some p:=by
 unfold callD at e
 rcases compF_ok (E:=E) hle g fuel as h rc with h1 | ⟨fn,b,h1,h2,h3⟩
 · rw[h1] at e;cases e
 · unfold callDA
   rw[h1];simp only;rw[h2];simp only
   cases hr:(compF E g).run fuel fc as h rc with
   | bad=>rw[hr] at e;cases e
   | pan v res h' y=>rw[hr] at e;cases e
   | fin res h' y=>
     rw[hr] at e h3
     obtain ⟨x,ts,h4,h5,h6⟩:=h3
     obtain ⟨h7,e1⟩:=bc_opt (show bc y.ds.isEmpty (ob none (fun _=>some (h',y.rc)) (res h')) none=some p from e)
     obtain ⟨vs,h8,e2⟩:=ob_opt e1
     rw[h5]
     rcases h4 with rfl | rfl
     · simp only[h7,h6 h' vs h8,Option.isSome_some,Bool.and_self,if_true];exact e2
     · simp only[h7,h6 h' vs h8,Option.isSome_some,Bool.and_self,if_true];exact e2
theorem unwindA_mono {f g:FuncId→List AV→Heap→RC→Option (Heap×RC)} (hfg:∀k as h rc p,f k as h rc=some p→g k as h rc=some p):∀(ds:List ADef) (p:Option AV) (h:Heap) {q:Option AV×Heap},unwindA f ds p h=some q→unwindA g ds p h=some q
 | [],p,h,q,e=>by cases p<;>exact e
 | .col r::ds,p,h,q,e=>by
   rw[unwindA] at e ⊢
   split at e
   · exact unwindA_mono hfg ds p _ e
   · cases e
 | .call k as::ds,none,h,q,e=>by
   rw[unwindA] at e ⊢
   cases hf:f k as h .no with
   | none=>rw[hf] at e;cases e
   | some p=>rw[hf] at e;rw[hfg _ _ _ _ _ hf];obtain ⟨h',rc'⟩:=p;exact unwindA_mono hfg ds none h' e
 | .call k as::ds,some v,h,q,e=>by
   rw[unwindA] at e ⊢
   cases hf:f k as h (.pend v) with
   | none=>rw[hf] at e;cases e
   | some p=>
     rw[hf] at e;rw[hfg _ _ _ _ _ hf];obtain ⟨h',rc'⟩:=p
     cases rc' with
     | pend w=>exact unwindA_mono hfg ds _ h' e
     | done=>exact unwindA_mono hfg ds _ h' e
     | _=>cases e
theorem roundK_le {fc call:CallF} (hle:CallLe fc call) (fuel:Nat) (l:Nat) (args:List AV) (h:Heap):(∀v h',roundK E fc fuel l args h= .ret v h'→roundA E call fuel l args h= .ret v h')∧∀v h',roundK E fc fuel l args h= .panic v h'→roundA E call fuel l args h= .panic v h':=by
 have key:∀out:COut,(∀why o,out≠ .fail why o)→roundK E fc fuel l args h=out→roundA E call fuel l args h=out:=by
  intro out hout e
  unfold roundK at e
  unfold roundA
  split at e
  case h_2=>exact absurd e.symm (hout _ _)
  rename_i st pd ts ps as bd dn hg
  rw[hg]
  simp only
  by_cases ha:args.length=ps.length
  · rw[if_pos ha] at e ⊢
    split at e
    · rename_i s1 h1
      rw[execL_ok hle h1]
      simp only
      split at e
      · rename_i pd ts2 ps2 as2 bd2 dn2 hg2
        rw[hg2]
        simp only
        split at e
        · rename_i s2 h2;rw[execL_ok hle h2];exact e
        · rename_i s2 h2;rw[execL_ok hle h2];exact e
        · rename_i id s2 h2;rw[execL_ok hle h2];exact e
        · rename_i v s2 h2;rw[execL_ok hle h2];exact e
        · exact absurd e.symm (hout _ _)
      · exact absurd e.symm (hout _ _)
    · exact absurd e.symm (hout _ _)
    · exact absurd e.symm (hout _ _)
  · rw[if_neg ha] at e;exact absurd e.symm (hout _ _)
 exact ⟨fun v h' e=>key _ (by simp) e,fun v h' e=>key _ (by simp) e⟩
noncomputable def finA (E:Env) (call:CallF) (fuel:Nat) (fn:Func) (p:Option AV) (s:St):COut:=match unwindA (callDA E call fuel) s.ds p s.h with
 | none=> .fail "unwind" none
 | some (some v,h')=> .panic v h'
 | some (none,h')=>match resA E h' s.ts fn.results.toList with
   | some vs=> .ret (tupled vs) h'
   | none=> .fail "results" none
theorem callN_succ (d fuel:Nat) {f:FuncId} {fn:Func} {b:Code} (hf:E.P.funcs[f]? =some fn) (hb:fn.body=some b) (args:List AV) (h:Heap):
 callN E (d+1) fuel (.fn f) args h=(match bodyA E (callN E d fuel) fuel fn b args h .no with
  | .ok .normal s=>finA E (callN E d fuel) fuel fn none s
  | .ok .ret s=>finA E (callN E d fuel) fuel fn none s
  | .ok (.panic v) s=>finA E (callN E d fuel) fuel fn (some v) s
  | .ok (.exit _) _=> .fail "exit" none
  | .fail why o=> .fail (why++ " in " ++fn.name) o):=by
 rw[callN]
 simp only[hf,hb]
 rfl
theorem finK_le {fc call:CallF} (hle:CallLe fc call) {fuel:Nat} {fn:Func} {p:Option AV} {res:Heap→Option (List AV)} {ts:List AV} {h:Heap} {y:Y} (hres:∀h' vs,res h'=some vs→resA E h' ts fn.results.toList=some vs) {out:COut} (ho:∀why o,out≠ .fail why o)
 (e:lcase (p.elim (ob (.fail "results" none) (fun vs=>COut.ret (tupled vs) h) (res h)) (fun v=> .panic v h)) (finK E fc fuel p res h y.ds) y.ds=out):finA E call fuel fn p ⟨ts,h,y.ds,y.rc⟩=out:=by
 unfold finA
 cases hd:y.ds with
 | nil=>
   rw[hd] at e
   cases p with
   | some v=>exact e
   | none=>
     have e:ob (.fail "results" none) (fun vs=>COut.ret (tupled vs) h) (res h)=out:=e
     cases hr:res h with
     | none=>rw[hr] at e;exact absurd e.symm (ho _ _)
     | some vs=>
       rw[hr] at e
       simp only[unwindA,hres h vs hr]
       exact e
 | cons d ds=>
   rw[hd] at e
   have e:finK E fc fuel p res h (d::ds)=out:=e
   unfold finK at e
   cases hu:unwindA (callD E fc fuel) (d::ds) p h with
   | none=>rw[hu] at e;exact absurd e.symm (ho _ _)
   | some q=>
     rw[hu] at e
     have:=unwindA_mono (g:=callDA E call fuel) (fun k as h rc p e=>callD_le hle e) (d::ds) p h hu
     simp only[this]
     obtain ⟨q1,h'⟩:=q
     cases q1 with
     | some v=>exact e
     | none=>
       have e:ob (.fail "results" none) (fun vs=>COut.ret (tupled vs) h') (res h')=out:=e
       cases hr:res h' with
       | none=>rw[hr] at e;exact absurd e.symm (ho _ _)
       | some vs=>rw[hr] at e;simp only[hres h' vs hr];exact e
theorem callC_le (fuel:Nat):∀d,CallLe (callC E d fuel) (callN E d fuel)
 | 0=>fun _ _ _=>⟨fun _ _ e=>(by cases e),fun _ _ e=>(by cases e)⟩
 | d+1=>by
   have ih:=callC_le fuel d
   intro g args h
   cases g with
   | yld l=>exact roundK_le ih fuel l args h
   | fn f=>
     have key:∀out:COut,(∀why o,out≠ .fail why o)→callC E (d+1) fuel (.fn f) args h=out→callN E (d+1) fuel (.fn f) args h=out:=by
      intro out ho e
      have e:bo (fun res h' y=>lcase (ob (.fail "results" none) (fun vs=>COut.ret (tupled vs) h') (res h')) (finK E (callC E d fuel) fuel none res h' y.ds) y.ds)
       (fun v res h' y=>lcase (.panic v h') (finK E (callC E d fuel) fuel (some v) res h' y.ds) y.ds) (.fail "body" none) ((compF E f).run fuel (callC E d fuel) args h .no)=out:=e
      rcases compF_ok (E:=E) ih f fuel args h .no with h1 | ⟨fn,b,h1,h2,h3⟩
      · rw[h1] at e;exact absurd e.symm (ho _ _)
      · rw[callN_succ d fuel h1 h2]
        cases hr:(compF E f).run fuel (callC E d fuel) args h .no with
        | bad=>rw[hr] at e;exact absurd e.symm (ho _ _)
        | fin res h' y=>
          rw[hr] at e h3
          obtain ⟨x,ts,h4,h5,h6⟩:=h3
          have:=finK_le (E:=E) ih (fn:=fn) (p:=none) h6 ho e
          rw[h5]
          rcases h4 with rfl | rfl<;>exact this
        | pan v res h' y=>
          rw[hr] at e h3
          obtain ⟨ts,h5,h6⟩:=h3
          have:=finK_le (E:=E) ih (fn:=fn) (p:=some v) h6 ho e
          rw[h5];exact this
     exact ⟨fun v h' e=>key _ (by simp) e,fun v h' e=>key _ (by simp) e⟩
theorem callN_of_callC {d fuel:Nat} {f:FuncId} {args:List AV} {h h':Heap} {v:AV} (e:callC E d fuel (.fn f) args h= .ret v h'):callN E d fuel (.fn f) args h= .ret v h':=
 (callC_le fuel d _ _ _).1 v h' e
end Go.Ab.Fa
end
section
namespace Go.Ab
structure ExtAt (P:Program) (f:FuncId) (e:Array Value→Sem Value):Prop where
 at':∃fn,P.funcs[f]? =some fn∧(fn.name== "runtime.NumGoroutine")=false∧fn.body.isNone=true∧Extern.findNext fn=none∧Extern.find fn=some e
section
open Fa
noncomputable def l3 {R:Type} (f:AV→AV→AV→R) (d:R) (l:List AV):R:=
 List.rec (motive:=fun _=>R) d (fun a tl _=>List.rec (motive:=fun _=>R) d (fun b tl _=>List.rec (motive:=fun _=>R) d (fun c tl _=>List.rec (motive:=fun _=>R) (f a b c) (fun _ _ _=>d) tl) tl) tl) l
noncomputable def l2 {R:Type} (f:AV→AV→R) (d:R) (l:List AV):R:=
 List.rec (motive:=fun _=>R) d (fun a tl _=>List.rec (motive:=fun _=>R) d (fun b tl _=>List.rec (motive:=fun _=>R) (f a b) (fun _ _ _=>d) tl) tl) l
end
open Fa
end Go.Ab
end
section
namespace Go.Ab
open Go.Maps Go.WideElems Go.RowKit Go.Proofs
section
open Fa
noncomputable def l1 {R:Type} (f:AV→R) (d:R) (l:List AV):R:=List.rec (motive:=fun _=>R) d (fun a tl _=>List.rec (motive:=fun _=>R) (f a) (fun _ _ _=>d) tl) l
end
open Fa
theorem OK.later {E:Env} {φ:Ph} {h:Heap} {w w':World} (ok:OK E φ h w) (b:Below w.heap.size w w'):OK E φ h w'∧Fr φ h w φ h w':=by
 have hblk:∀j p m,h.get j=some p→φ j=some m→m.blk<w.heap.size:=fun j p m hj hm=>by
  have hor:=ok.live j p m hj hm
  rcases Nat.lt_or_ge m.blk w.heap.size with a | a
  · exact a
  · exfalso
    rw[Array.getElem?_eq_none a] at hor
    exact hor.absurd
 refine ⟨⟨ok.dom,ok.nx,ok.glob,fun i o l h1 h2=>?_,ok.inj⟩,⟨Ph.le_refl φ,fun _ _=>rfl,Nat.le_refl _,b.os,b.tape,b.output,b.size,fun c hc _=>b.block c hc,fun i o l h1 h2 h3=> .inr ⟨i,o,l,h1,h2,h3,rfl⟩⟩⟩
 rw[b.block _ (hblk i o l h1 h2)]
 exact ok.live i o l h1 h2
end Go.Ab
end
section
namespace Go.Ab
structure Tab where
 g:Nat
 k:IntKind
 ns:List Nat
 t:TypeId
def Tab.cells (x:Tab):List AV:=x.ns.map fun n=>AV.int x.k (Int.ofNat n)
noncomputable def heapOf (G:Nat):List Tab→Heap
 | []=>⟨HT.nil,G,fun _=>none⟩
 | x::xs=>(heapOf G xs).put x.g (some (.cells x.cells x.t true))
theorem nil_get (i:Nat) (G:Nat):(Heap.mk HT.nil G fun _=>none).get i=none:=by
 by_cases hi:i<262144
 · rw[Heap.get_in hi]
   rw[hp_get hi,hi_get,lo_get]
   simp only[HT.nil,sel_all]
 · rw[Heap.get_out hi]
theorem heapOf_nx (G:Nat):∀l,(heapOf G l).nx=G
 | []=>rfl
 | _::xs=>heapOf_nx G xs
theorem heapOf_get {G:Nat}:∀{l:List Tab} {i:Nat} {o:AObj},(heapOf G l).get i=some o→∃x∈l,x.g=i∧o= .cells x.cells x.t true
 | [],i,o,e=>by rw[heapOf,nil_get] at e;cases e
 | x::xs,i,o,e=>by
   rw[heapOf] at e
   by_cases h:x.g=i
   · subst h
     rw[Heap.get_put_same] at e
     exact ⟨x,by simp,rfl,(Option.some.inj e).symm⟩
   · rw[Heap.get_put_other h] at e
     obtain ⟨y,hy,h1,h2⟩:=heapOf_get e
     exact ⟨y,by simp [hy],h1,h2⟩
def TabOK (w:World) (x:Tab):Prop:=∃C e fz,w.heap[x.g]? =some (.cells C e fz)∧C.toList=x.ns.map fun n=>Value.int x.k (Int.ofNat n)
def phG (G:Nat):Ph:=fun i=>if i<G then some ⟨i,0,0⟩ else none
theorem OK.begin {E:Env} {w:World} {l:List Tab} (hl:∀x∈l,x.g<E.G∧TabOK w x):OK E (phG E.G) (heapOf E.G l) w:=by
 refine ⟨fun i l' h=>?_,?_,fun g hg=>?_,fun i o l' h1 h2=>?_,fun i j o p l' m _ _ h3 h4 _ h5=>?_⟩
 · unfold phG at h;rw[heapOf_nx];split at h
   · assumption
   · cases h
 · rw[heapOf_nx];exact Nat.le_refl _
 · unfold phG;rw[if_pos hg]
 · obtain ⟨x,hx,rfl,rfl⟩:=heapOf_get h1
   obtain ⟨hg,C,e,⟨lo,hi⟩,hw,hC⟩:=hl x hx
   unfold phG at h2;rw[if_pos hg] at h2
   obtain rfl:=Option.some.inj h2
   refine ⟨C,e,lo,hi,hw,?_,?_,(fun h=>by cases h),fun _ _ _=>rfl⟩
   · have:C.size=x.ns.length:=by rw[←Array.length_toList,hC,List.length_map]
     simp [Tab.cells,slackCells,this]
   · intro k y hk
     simp only[Tab.cells,List.getElem?_map,Option.map_eq_some_iff] at hk
     obtain ⟨n,hn,rfl⟩:=hk
     refine ⟨.int x.k (Int.ofNat n),?_,.int _ _⟩
     rw[Nat.zero_add,←Array.getElem?_toList,hC,List.getElem?_map,hn];rfl
 · unfold phG at h3 h4
   split at h3
   · split at h4
     · obtain rfl:=Option.some.inj h3
       obtain rfl:=Option.some.inj h4
       exact h5
     · cases h4
   · cases h3
noncomputable def endsTrue (o:COut):Bool:=COut.rec (motive:=fun _=>Bool) (fun v _=>Fa.vBool (fun b=>b) false v) (fun _ _=>false) (fun _ _=>false) o
theorem endsTrue_of {o:COut} (h:endsTrue o=true):∃h',o= .ret (.bool true) h':=by
 cases o with
 | ret v h'=>
   cases v with
   | bool b=>exact ⟨h',by rw[show b=true from h]⟩
   | _=>cases h
 | panic v h'=>cases h
 | fail _ _=>cases h
end Go.Ab
end
section
namespace Go.Ab
variable {E:Env}
noncomputable def finishA (E:Env) (call:CallF) (fuel:Nat) (fn:Func) (p:Option AV) (s:St):COut:=match unwindA (callD E call fuel) s.ds p s.h with
 | none=> .fail "unwind" none
 | some (some v,h')=> .panic v h'
 | some (none,h')=>match resA E h' s.ts fn.results.toList with
   | some vs=> .ret (tupled vs) h'
   | none=> .fail "results" none
noncomputable def stepA (E:Env) (call:CallF) (fuel:Nat) (f:FuncId) (args:List AV) (h:Heap):COut:=match E.P.funcs[f]? with
 | none=> .fail "no function" none
 | some fn=>match fn.body with
   | none=> .fail ("no body " ++fn.name) none
   | some b=>match bodyA E call fuel fn b args h .no with
     | .ok .normal s=>finishA E call fuel fn none s
     | .ok .ret s=>finishA E call fuel fn none s
     | .ok (.panic v) s=>finishA E call fuel fn (some v) s
     | .ok (.exit _) _=> .fail "exit" none
     | .fail why o=> .fail (why++ " in " ++fn.name) o
theorem stepA_sound (hE:EnvOK E) (fuel:Nat) {call:CallF} (ih:CallOK E call):(∀f args h v h',stepA E call fuel f args h= .ret v h'→RetOK E f args h v h')∧(∀f args h v h',stepA E call fuel f args h= .panic v h'→PanOK E f args h v h'):=by
 have key:∀(f:FuncId) (args:List AV) (h:Heap) (out:COut),stepA E call fuel f args h=out→(∀why q,out≠ .fail why q)→
  ∃fn c e s p,E.P.funcs[f]? =some fn∧fn.body=some c∧bodyA E call fuel fn c args h .no= .ok e s∧
   ((p=none∧(e= .normal∨e= .ret))∨∃v,p=some v∧e= .panic v)∧
   ((∃v h',out= .panic v h'∧unwindA (callD E call fuel) s.ds p s.h=some (some v,h'))∨
    ∃vs h',out= .ret (tupled vs) h'∧unwindA (callD E call fuel) s.ds p s.h=some (none,h')∧resA E h' s.ts fn.results.toList=some vs):=by
  intro f args h out e hne
  unfold stepA at e
  split at e
  · exact absurd e.symm (hne _ _)
  rename_i fn hf
  split at e
  · exact absurd e.symm (hne _ _)
  rename_i c hb
  have fin:∀(p:Option AV) (s:St),finishA E call fuel fn p s=out→
   ((∃v h',out= .panic v h'∧unwindA (callD E call fuel) s.ds p s.h=some (some v,h'))∨
    ∃vs h',out= .ret (tupled vs) h'∧unwindA (callD E call fuel) s.ds p s.h=some (none,h')∧resA E h' s.ts fn.results.toList=some vs):=by
   intro p s hm
   unfold finishA at hm
   split at hm
   · exact absurd hm.symm (hne _ _)
   · rename_i v h' hu;exact .inl ⟨v,h',hm.symm,hu⟩
   · rename_i h' hu
     split at hm
     · rename_i vs hv;exact .inr ⟨vs,h',hm.symm,hu,hv⟩
     · exact absurd hm.symm (hne _ _)
  split at e
  · rename_i s hbody;exact ⟨fn,c,_,s,none,hf,hb,hbody,.inl ⟨rfl,.inl rfl⟩,fin none s e⟩
  · rename_i s hbody;exact ⟨fn,c,_,s,none,hf,hb,hbody,.inl ⟨rfl,.inr rfl⟩,fin none s e⟩
  · rename_i v s hbody;exact ⟨fn,c,_,s,some v,hf,hb,hbody,.inr ⟨v,rfl,rfl⟩,fin (some v) s e⟩
  · exact absurd e.symm (hne _ _)
  · exact absurd e.symm (hne _ _)
 have run:∀(f:FuncId) (fn:Func) (c:Code) (args:List AV) (h:Heap) (e:AEx) (s:St) (p p':Option AV) (h':Heap),E.P.funcs[f]? =some fn→fn.body=some c→bodyA E call fuel fn c args h .no= .ok e s→
  ((p=none∧(e= .normal∨e= .ret))∨∃v,p=some v∧e= .panic v)→unwindA (callD E call fuel) s.ds p s.h=some (p',h')→
  ∀(φ:Ph) (w:World) (vs:List Value),OK E φ h w→LR φ args vs→∀cs,∃φ' w' m' tmps todo,OK E φ' h' w'∧Fr φ h w φ' h' w'∧LR φ' s.ts tmps.toList∧
   ((p'=none∧m'= .returning)∨∃v v',p'=some v∧VR φ' v v'∧m'= .panicking [{v:=v',recovered:=false}])∧
   Steps E.P (lone (Frame.enter E.P f vs.toArray .normal) cs w) (lone {(bare f .normal).atR {tmps,defers:=[]} todo with mode:=m'} cs w'):=by
  intro f fn c args h e s p p' h' hf hb hbody hp hu φ w vs ok hl cs
  obtain ⟨φ1,w1,a1,e1,x1,x2,x3,x4,x5,x6⟩:=(bodyA_sound hE ih hf hb hbody ok hl (kind:= .normal) (K:=fun _=>cs) ⟨rfl,fun fr hk=>by simp [tryRecover,show fr.kind= .normal from hk]⟩).is
  have hcur:cur (fun _=>cs) s.rc=cs:=by cases s.rc<;>rfl
  have hcur0:cur (fun _=>cs) RC.no=cs:=rfl
  rw[hcur] at x6
  rw[hcur0] at x6
  have hm:∃todo m,((p=none∧m= .returning)∨∃v v',p=some v∧VR φ1 v v'∧m= .panicking [{v:=v',recovered:=false}])∧
   Steps E.P (lone (Frame.enter E.P f vs.toArray .normal) cs w) (lone {(bare f .normal).atR a1 todo with mode:=m} cs w1):=by
   rcases hp with ⟨rfl,rfl | rfl⟩ | ⟨v,rfl,rfl⟩
   · cases x1;exact ⟨[],.returning,.inl ⟨rfl,rfl⟩,Steps.trans x6 (.one (stepR_end rfl))⟩
   · cases x1;obtain ⟨todo,hs⟩:=x6;exact ⟨_,.returning,.inl ⟨rfl,rfl⟩,Steps.trans hs (.one (stepR_ret rfl))⟩
   · cases x1 with
     | panic _ v' hv=>obtain ⟨todo,hs⟩:=x6;exact ⟨todo,_,.inr ⟨v,v',rfl,hv,rfl⟩,hs⟩
  obtain ⟨todo,m,hmp,hs1⟩:=hm
  obtain ⟨φ2,w2,m2,ok2,f2,hp2,hs2⟩:=unwind_sound hE ih s.ds hu (fr:={(bare f .normal).atR a1 todo with mode:=m}) (cs:=cs) x3 x2.ds (by
   rcases hmp with ⟨e,em⟩ | ⟨v,v',e,hv,em⟩
   · exact .inl ⟨e,em⟩
   · exact .inr ⟨v,v',e,hv,em⟩)
  exact ⟨φ2,w2,m2,a1.tmps,todo,ok2,x4.trans f2,x2.ts.mono f2.ext,hp2,Steps.trans hs1 hs2⟩
 refine ⟨fun f args h v h' e=>?_,fun f args h v h' e=>?_⟩
 · obtain ⟨fn,c,e1,s,p,hf,hb,hbody,hp,hout⟩:=key f args h _ e (by simp)
   rcases hout with ⟨v1,h1,he,_⟩ | ⟨vs1,h1,he,hu,hres⟩
   · simp at he
   · simp at he;obtain ⟨rfl,rfl⟩:=he
     intro φ w vs ok hl
     refine ⟨enters hE hf hb _ w,fun cs=>?_⟩
     obtain ⟨φ',w',m',tmps,todo,ok',fr,ht,hm,hs⟩:=run f fn c args h e1 s p none h' hf hb hbody hp hu φ w vs ok hl cs
     obtain ⟨v',hv,hrun⟩:=results_run ok' ht hres
     rcases hm with ⟨_,rfl⟩ | ⟨v,v'',e,_⟩
     · exact ⟨φ',w',v',_,hv,ok',fr,hs,rfl,rfl,rfl,rfl,fn,hf,hrun⟩
     · simp at e
 · obtain ⟨fn,c,e1,s,p,hf,hb,hbody,hp,hout⟩:=key f args h _ e (by simp)
   rcases hout with ⟨v1,h1,he,hu⟩ | ⟨vs1,h1,he,_⟩
   · simp at he;obtain ⟨rfl,rfl⟩:=he
     intro φ w vs ok hl
     refine ⟨enters hE hf hb _ w,fun cs=>?_⟩
     obtain ⟨φ',w',m',tmps,todo,ok',fr,ht,hm,hs⟩:=run f fn c args h e1 s p (some v) h' hf hb hbody hp hu φ w vs ok hl cs
     rcases hm with ⟨e,_⟩ | ⟨v2,v',e,hv,rfl⟩
     · simp at e
     · simp at e;subst e
       exact ⟨φ',w',v',_,hv,ok',fr,hs,rfl,rfl,rfl,fn,hf⟩
   · simp at he
namespace Fa
abbrev Memo:=FuncId→List AV→Heap→Option (AV×Heap)
def MemoOK (E:Env) (M:Memo):Prop:=∀f args h v h',M f args h=some (v,h')→RetOK E f args h v h'
noncomputable def heapL (nx:Nat) (l:List (Nat×AObj)):Heap:=List.rec (motive:=fun _=>Heap) ⟨HT.nil,nx,fun _=>none⟩ (fun x _ h=>h.put x.1 (some x.2)) l
theorem heapL_get {nx:Nat}:∀{l:List (Nat×AObj)} {i:Nat} {o:AObj},(heapL nx l).get i=some o→(i,o)∈l
 | [],i,o,e=>by
   have e:(Heap.mk HT.nil nx fun _=>none).get i=some o:=e
   by_cases hi:i<262144
   · rw[Heap.get_in hi] at e
     have e:(hp i).get HT.nil=some o:=e
     rw[hp_get hi,hi_get,lo_get] at e
     simp only[HT.nil,sel_all] at e
     cases e
   · rw[Heap.get_out hi] at e;cases e
 | x::xs,i,o,e=>by
   have e:((heapL nx xs).put x.1 (some x.2)).get i=some o:=e
   by_cases h:x.1=i
   · subst h
     rw[Heap.get_put_same] at e
     cases e;simp
   · rw[Heap.get_put_other h] at e
     exact List.mem_cons_of_mem _ (heapL_get e)
structure Ent where
 f:FuncId
 args:List AV
 nx:Nat
 K:List (Nat×AObj)
 v:AV
 nx':Nat
 K':List (Nat×AObj)
end Fa
end Go.Ab
end
section
namespace Go.Ab
variable {E:Env}
theorem LR.back_of {φ φ':Ph} {xs:List AV} {ys zs:List Value} (h:LR φ xs ys) (h':LR φ' xs zs) (ih:∀(i:Nat) (x:AV) (y z:Value),xs[i]? =some x→ys[i]? =some y→zs[i]? =some z→VR φ x z):LR φ xs zs:=by
 refine ⟨h'.1,fun i x z hx hz=>?_⟩
 have hi:i<xs.length:=(List.getElem?_eq_some_iff.1 hx).1
 have:i<ys.length:=by rw[←h.1];exact hi
 exact ih i x ys[i] z hx (by simp [this]) hz
theorem VR.back {φ φ':Ph} (hle:φ.le φ') {x:AV} {y:Value} (h:VR φ x y):∀{z:Value},VR φ' x z→VR φ x z:=by
 induction h with
 | bool b=>intro z h;cases h;exact .bool b
 | int k n=>intro z h;cases h;exact .int k n
 | str s=>
   intro z h
   generalize he:AV.str s.data.toList=q at h
   cases h with
   | str s'=>exact .str s'
   | _=>cases he
 | nilptr=>intro z h;cases h;exact .nilptr
 | ptr o h=>intro z h';cases h' with | ptr _ h'=>rw[hle _ _ h] at h';cases h';exact .ptr o h
 | nilslice=>intro z h;cases h;exact .nilslice
 | slice o len cap op h=>intro z h';cases h' with | slice _ _ _ _ h'=>rw[hle _ _ h] at h';cases h';exact .slice o len cap op h
 | zslice a cap=>intro z h;cases h;exact .zslice _ _
 | nilmap=>intro z h;cases h;exact .nilmap
 | map h=>intro z h';cases h' with | map h'=>rw[hle _ _ h] at h';cases h';exact .map h
 | func f a b a' b' la lb ha hb iha ihb=>
   intro z h
   obtain ⟨c,d,rfl,hc,hd⟩:=VR.func_inv h
   have h1:LR φ a c.toList:=LR.back_of (ys:=a'.toList) ⟨by simpa using la,fun i x y p q=>ha i x y p (by simpa using q)⟩ hc fun i x y z p q r=>iha i x y p (by simpa using q) (hc.2 i x z p r)
   have h2:LR φ b d.toList:=LR.back_of (ys:=b'.toList) ⟨by simpa using lb,fun i x y p q=>hb i x y p (by simpa using q)⟩ hd fun i x y z p q r=>ihb i x y p (by simpa using q) (hd.2 i x z p r)
   have:=VR.func' f h1 h2
   simpa using this
 | nilFunc=>intro z h;cases h;exact .nilFunc
 | yield h=>intro z h';cases h' with | yield h'=>rw[hle _ _ h] at h';cases h';exact .yield h
 | iface t v v' h ih=>intro z h';cases h' with | iface _ _ _ h'=>exact .iface t v _ (ih h')
 | nilIface=>intro z h;cases h;exact .nilIface
 | agg cs cs' hl h ih=>
   intro z h'
   obtain ⟨d,rfl,hd⟩:=VR.agg_inv h'
   have h1:LR φ cs d.toList:=LR.back_of (ys:=cs'.toList) ⟨by simpa using hl,fun i x y p q=>h i x y p (by simpa using q)⟩ hd fun i x y z p q r=>ih i x y p (by simpa using q) (hd.2 i x z p r)
   have:=VR.agg' h1
   simpa using this
 | any v h=>intro z h';cases h' with | any _ h'=>exact .any _ h'
 | tuple cs cs' hl h ih=>
   intro z h'
   obtain ⟨d,rfl,hd⟩:=VR.tuple_inv h'
   have h1:LR φ cs d.toList:=LR.back_of (ys:=cs'.toList) ⟨by simpa using hl,fun i x y p q=>h i x y p (by simpa using q)⟩ hd fun i x y z p q r=>ih i x y p (by simpa using q) (hd.2 i x z p r)
   have:=VR.tuple' h1
   simpa using this
theorem LR.back {φ φ':Ph} (hle:φ.le φ') {xs:List AV} {ys zs:List Value} (h:LR φ xs ys) (h':LR φ' xs zs):LR φ xs zs:=
 LR.back_of h h' fun i x y z p q r=>(h.2 i x y p q).back hle (h'.2 i x z p r)
theorem OR.back {φ φ':Ph} (hle:φ.le φ') {o:AObj} {l:Loc} {x z:Option Obj} (h:OR E φ o l x) (h':OR E φ' o l z):OR E φ o l z:=by
 cases o with
 | cells cs e ro=>
   obtain ⟨C,e1,lo,hi,_,hc⟩:=h
   obtain ⟨D,e2,lo',hi',hz,hd⟩:=h'
   refine ⟨D,e2,lo',hi',hz,hd.size,fun k x hk=>?_,hd.free,hd.zero⟩
   obtain ⟨y,_,hy⟩:=hc.val k x hk
   obtain ⟨y',h1,hy'⟩:=hd.val k x hk
   exact ⟨y',h1,hy.back hle hy'⟩
 | map es clock=>
   obtain ⟨_,es1,_,hl,hv⟩:=h
   obtain ⟨h0,es2,hz,hl',hv'⟩:=h'
   refine ⟨h0,es2,hz,hl',fun i x y hx hy=>?_⟩
   have hi:i<es.length:=(List.getElem?_eq_some_iff.1 hx).1
   have:i<es1.toList.length:=by rw[←hl];exact hi
   have a:=hv i x _ hx (List.getElem?_eq_getElem this)
   have b:=hv' i x y hx hy
   exact ⟨a.key.back hle b.key,a.val.back hle b.val,b.born⟩
 | siter s pos=>exact h'
 | miter m since seen stepped=>
   cases m with
   | none=>exact h'
   | some m=>
     obtain ⟨_,lm,hm,_⟩:=h
     obtain ⟨h0,lm',hm',hz⟩:=h'
     rw[hle _ _ hm] at hm';cases hm'
     exact ⟨h0,lm,hm,hz⟩
 | loop st pd ts ps as bd dn=>
   obtain ⟨_,r,_,hr⟩:=h
   obtain ⟨h0,r',hz,hr'⟩:=h'
   obtain ⟨ld,hd,_⟩:=hr.defers
   obtain ⟨ld',hd',he'⟩:=hr'.defers
   rw[hle _ _ hd] at hd';cases hd'
   exact ⟨h0,r',hz,hr'.state,hr'.pending,hr.tmps.back hle hr'.tmps,hr'.params,hr'.assign,hr'.body,⟨ld,hd,he'⟩,hr'.fn⟩
 | defd=>exact h'
def Has (h h':Heap):Prop:=∀i o,h.get i=some o→h'.get i=some o
theorem Has.refl (h:Heap):Has h h:=fun _ _ e=>e
theorem Has.trans {a b c:Heap} (x:Has a b) (y:Has b c):Has a c:=fun i o e=>y i o (x i o e)
theorem OK.forget {φ φ':Ph} {h h':Heap} {w w':World} (ok:OK E φ h w) (hle:φ.le φ') (ok':OK E φ' h' w') (hs:Has h h'):OK E φ h w' where
 dom:=ok.dom
 nx:=ok.nx
 glob:=ok.glob
 live i o l a b:=(ok.live i o l a b).back hle (ok'.live i o l (hs i o a) (hle _ _ b))
 inj:=ok.inj
theorem Fr.forget {φ φ':Ph} {h h':Heap} {w w':World} (f:Fr φ h w φ' h' w'):Fr φ h w φ h w' where
 ext:=Ph.le_refl φ
 old _ _:=rfl
 nx:=Nat.le_refl _
 os:=f.os
 tape:=f.tape
 output:=f.output
 size:=f.size
 keep:=f.keep
 own i o l a b c:= .inr ⟨i,o,l,a,b,c,rfl⟩
def AV.plain:Nat→AV→Bool
 | 0,_=>false
 | n+1,x=>match x with
   | .bool _ | .int .. | .str _ | .nilptr | .nilslice | .nilmap | .nilFunc | .nilIface=>true
   | .iface _ v=>AV.plain n v
   | .agg cs=>cs.all (AV.plain n)
   | .tuple cs=>cs.all (AV.plain n)
   | _=>false
theorem VR.plain {φ φ':Ph}:∀(n:Nat) {x:AV} (_:AV.plain n x=true) {y:Value},VR φ' x y→VR φ x y
 | 0,_,h,_,_=>by cases h
 | n+1,x,h,y,hv=>by
   have ih:= @VR.plain φ φ' n
   cases hv with
   | bool b=>exact .bool b
   | int k m=>exact .int k m
   | str s=>exact .str s
   | nilptr=>exact .nilptr
   | nilslice=>exact .nilslice
   | nilmap=>exact .nilmap
   | nilFunc=>exact .nilFunc
   | nilIface=>exact .nilIface
   | iface t v v' h'=>exact .iface t v v' (ih (by simpa [AV.plain] using h) h')
   | agg cs cs' hl hc=>
     refine .agg cs cs' hl fun i x y a b=>ih ?_ (hc i x y a b)
     simp only[AV.plain,List.all_eq_true] at h
     exact h x (List.mem_of_getElem? a)
   | tuple cs cs' hl hc=>
     refine .tuple cs cs' hl fun i x y a b=>ih ?_ (hc i x y a b)
     simp only[AV.plain,List.all_eq_true] at h
     exact h x (List.mem_of_getElem? a)
   | _=>cases h
theorem RetOK.closed {f:FuncId} {args:List AV} {h':Heap} {v:AV} (r:RetOK E f args (Fa.heapL E.G []) v h') (ha:args.all (AV.plain 20)=true) (hv:AV.plain 20 v=true) (h:Heap):RetOK E f args h v h:=fun φ w vs ok hl=>by
 let φ0:Ph:=fun i=>if i<E.G then φ i else none
 have hle:φ0.le φ:=fun i l e=>by
  simp only[φ0] at e
  split at e
  · exact e
  · cases e
 have none0:∀{i o},(Fa.heapL E.G []).get i=some o→False:=fun e=>by cases Fa.heapL_get e
 have ok0:OK E φ0 (Fa.heapL E.G []) w:=by
  refine ⟨fun i l e=>?_,Nat.le_refl _,fun g hg=>?_,fun i o l e=>(none0 e).elim,fun i j o p l m e=>(none0 e).elim⟩
  · simp only[φ0] at e
    split at e
    · assumption
    · cases e
  · simp only[φ0,hg,if_true];exact ok.glob g hg
 have hl0:LR φ0 args vs:=⟨hl.1,fun i x y a b=>(hl.2 i x y a b).plain 20 (List.all_eq_true.1 ha x (List.mem_of_getElem? a))⟩
 obtain ⟨h1,h2⟩:=r φ0 w vs ok0 hl0
 refine ⟨h1,fun cs=>?_⟩
 obtain ⟨φ',w',v',fr,x1,x2,x3,x4⟩:=h2 cs
 have hkeep:∀b,b<w.heap.size→w'.heap[b]? =w.heap[b]? :=fun b hb=>x3.keep b hb fun i o l e=>(none0 e).elim
 refine ⟨φ,w',v',fr,x1.plain 20 hv,⟨ok.dom,ok.nx,ok.glob,fun i o l a b=>?_,ok.inj⟩,⟨Ph.le_refl φ,fun _ _=>rfl,Nat.le_refl _,x3.os,x3.tape,x3.output,x3.size,fun b hb _=>hkeep b hb,fun i o l a b c=> .inr ⟨i,o,l,a,b,c,rfl⟩⟩,x4⟩
 have hr:=ok.live i o l a b
 by_cases hb:l.blk<w.heap.size
 · rw[hkeep _ hb];exact hr
 · rw[Array.getElem?_eq_none (by omega)] at hr
   exact hr.absurd.elim
end Go.Ab
end
