import Derived.Laws.Externs
import Derived.Lib.Bytealg
import Derived.Maps.Own
import Derived.Maps.Range
import Derived.Sort.KeysCollected
import GoSem.ClaimChange
import Derived.OpenShut
import Derived.FnData
import Derived.ChangeArms
import Derived.Test.YtfllahfbmaafcaaA5
import Derived.Test.YtfllahfbmaafcaaA3
import Derived.Test.YtfllahfbmaafcaaA1
import Derived.Test.YtfllahfbmaafcaaA4
set_option linter.unusedVariables false
set_option linter.unusedSimpArgs false
section
namespace Go.Ab.Fa
variable {E:Env} {F:RF} {n:Nat}
theorem iL {ts:List AV} {x:Operand} {a:AV} (h:eh E ts x=some a):fI E ts [x]=some [a]:=by simp [fI,eF,h]
theorem D7 {ts:List AV} {x y:Operand} {a b:AV} (h:eh E ts x=some a) (h':eh E ts y=some b):fI E ts [x,y]=some [a,b]:=by simp [fI,eF,h,h']
theorem Wm (v:AV):ac2 v=kM v:=by
 cases v with
 | str s=>show some (iE s)=some s.length;rw[fD]
 | _=>rfl
theorem OH {h:aw} {size m:Nat} {v:AV} {l:List AV} (e:Rg h size m v=some l):eU h size m v=some l:=by
 cases v with
 | aN=>
   obtain ⟨h1,e1⟩:=fq (show bc (Nat.beq m 0) (some []) none=some l from e)
   simp only[eU];rw[if_pos (lN h1)];exact e1
 | slice i o len c b=>
   obtain ⟨h1,e1⟩:=fq (show bc (Nat.ble m len) (ob none (fun obj=>yE (fun cs _ _=>bc (Nat.ble (o+m*size) (iE cs)) (some (so (sm cs o) (m*size))) none) none obj) (h.get i)) none=some l from e)
   obtain ⟨obj,h2,e2⟩:=gz e1
   obtain ⟨cs,el,ro,rfl,e3⟩:=qL e2
   obtain ⟨h3,e4⟩:=fq e3
   have h1:=ft h1
   have h3:=ft h3
   rw[fD] at h3
   rw[pY,pX] at e4
   simp only[eU,h2]
   rw[if_pos h1]
   by_cases h0:m=0
   · subst h0
     rw[if_pos rfl]
     rw[Nat.zero_mul,List.take_zero] at e4
     exact e4
   · rw[if_neg h0,if_pos h3];exact e4
 | _=>exact e
theorem RK {h:aw} {obj:aR} {f:aw→AV×aw} {p:AV×aw} (e:ob none (fun h'=>some (f h')) (h.new obj)=some p):∃h',h.new obj=some h'∧p=f h':=by
 obtain ⟨h',h1,e1⟩:=gz e
 exact ⟨h',h1,(Option.some.inj e1).symm⟩
theorem Wn {argTypes:Array TypeId} {sT xT elem:TypeId} {xd:TypeDesc} {size bytes:Nat} {z:AV} (h1:argTypes[0]? =some sT) (h2:argTypes[1]? =some xT) (h3:E.P.underlying sT=some (.slice elem)) (h4:E.P.underlying xT=some xd)
 (h5:ks xd=false) (h6:bZ E elem=some size) (h7:fm E elem=some bytes) (h8:ff E elem=some z) (h9:z.cells.length=size)
 {h:aw} {s x:AV} {p:AV×aw} (e:ac3 elem size bytes h s x=some p):bR E h argTypes s x=some p:=by
 obtain ⟨m,a1,e1⟩:=gz e
 rw[Wm] at a1
 obtain ⟨new,a2,e2⟩:=gz e1
 have a2:=OH a2
 obtain ⟨a3,e3⟩:=fq e2
 obtain ⟨a4,e4⟩:=fq e3
 rw[qH,Io] at a3
 have a4:=lN a4
 rw[fD] at a4
 unfold bR
 simp only[h1,h2,h3,h4,h5,h6,h7,h8,a1,a2]
 rw[if_neg (by simp)]
 rw[if_pos ⟨h9,a3,a4⟩]
 rcases og e4 with ⟨rfl,e5⟩ | ⟨i,o,len,cap,op,rfl,e5⟩
 · cases hm:Nat.beq m 0 with
   | true=>
     rw[hm,iV] at e5
     simp only;rw[if_pos (lN hm)];exact e5
   | false=>
     rw[hm,dV] at e5
     obtain ⟨a5,e6⟩:=fq e5
     have a5:(4*m+4096)*(bytes+1)≤1099511627776:=ft a5
     obtain ⟨h',a6,rfl⟩:=RK e6
     simp only
     rw[if_neg (by intro ee;rw[ee] at hm;cases hm),if_pos a5]
     simp only[a6]
 · obtain ⟨obj,a5,e6⟩:=gz e5
   obtain ⟨cs,el,ro,rfl,e7⟩:=qL e6
   obtain ⟨a6,e8⟩:=qK e7
   subst a6
   simp only[a5]
   cases hc:Nat.ble (Nat.add len m) cap with
   | true=>
     rw[hc,iV] at e8
     have hc:len+m≤cap:=ft hc
     obtain ⟨a7,e9⟩:=fq e8
     have a7:o+(len+m)*size≤iE cs:=ft a7
     rw[fD] at a7
     rw[if_pos hc,if_pos a7,←Option.some.inj e9,F2];rfl
   | false=>
     rw[hc,dV] at e8
     have hc:cap<len+m:=jU hc
     obtain ⟨a7,e9⟩:=fq e8
     have a7:(4*(len+m)+4096)*(bytes+1)≤1099511627776:=ft a7
     obtain ⟨a8,e10⟩:=fq e9
     have a8:o+len*size≤iE cs:=ft a8
     rw[fD] at a8
     rw[if_neg (by omega)]
     cases op with
     | true=>
       rw[iV] at e10
       obtain ⟨a9,e11⟩:=fq e10
       obtain ⟨a10,e12⟩:=fq e11
       obtain ⟨a0,e12⟩:=fq e12
       have a0:o=0:=lN a0
       have a9:=lN a9
       have a10:o+cap*size=iE cs:=lN a10
       rw[fD] at a10
       obtain ⟨h',a11,rfl⟩:=RK e12
       rw[nr,pY,pX] at a11
       rw[if_pos ⟨a7,a8,fun _=>⟨a9,a10,a0⟩⟩]
       rw[if_pos rfl]
       have aak:(h.put i none).new (.cells ((cs.drop o).take (len*size)++new) elem false)=some h':=a11
       simp only[aak];rfl
     | false=>
       rw[dV] at e10
       obtain ⟨h',a11,rfl⟩:=RK e10
       rw[nr,pY,pX] at a11
       rw[if_pos ⟨a7,a8,fun hh=>by cases hh⟩]
       rw[if_neg (by simp)]
       have aak:h.new (.cells ((cs.drop o).take (len*size)++new) elem false)=some h':=a11
       simp only[aak];rfl
theorem kT {b:Builtin} (h1:b≠ .len) (h2:b≠ .cap) (h3:b≠ .max) (h4:b≠ .min) (a:Array Operand) (t:Array TypeId):sx E (.call ⟨.builtin b,a,t⟩):=by
 cases b<;>first | exact absurd rfl h1 | exact absurd rfl h2 | exact absurd rfl h3 | exact absurd rfl h4 | exact ⟨fun _=>rfl,fun _ _=>rfl,fun _=>rfl⟩
theorem OI (a:Array Operand) (t:Array TypeId):fK E F n (.call ⟨.builtin .append,a,t⟩) (match a.toList with
 | [s,x]=>wO E F n s (fun gs=>wO E F n x (fun gx=>OA E t gs gx) .bad) .bad
 | _=> .bad):=by
 have nn:sx E (.call ⟨.builtin .append,a,t⟩):=kT (by simp) (by simp) (by simp) (by simp) a t
 generalize hl:a.toList=l
 match l with
 | []=>trivial
 | [_]=>trivial
 | _::_::_::_=>trivial
 | [s,x]=>
   simp only
   rcases bY E F n s (fun gs=>wO E F n x (fun gx=>OA E t gs gx) .bad) (.bad:Kd F.T) with h | ⟨gs,h,hs⟩<;>rw[h]
   · trivial
   rcases bY E F n x (fun gx=>OA E t gs gx) (.bad:Kd F.T) with h | ⟨gx,h,hx⟩<;>rw[h]
   · trivial
   unfold OA
   simp only[gJ,Array.getElem?_toList,iw,om,Ru,yM]
   have fin:∀(f:F.T→aw→Option (AV×aw)),(∀r h p,f r h=some p→bR E h t (gs r) (gx r)=some p)→fK E F n (.call ⟨.builtin .append,a,t⟩) (.wr f):=by
    intro f hf
    refine ⟨nn,fun call r h rc o p ho e=>?_⟩
    simp only[dm,ho,hl,D7 (hs r) (hx r),hf r h p e]
   cases h1:t[0]? with
   | none=>trivial
   | some sT=>cases h2:t[1]? with
     | none=>trivial
     | some xT=>
       simp only
       cases h3:E.P.underlying sT with
       | none=>trivial
       | some sd=>cases h4:E.P.underlying xT with
         | none=>cases sd<;>trivial
         | some xd=>cases sd with
           | slice elem=>
             simp only
             cases h5:ks xd with
             | true=>
               rw[if_pos rfl]
               apply fin
               intro r h p e
               unfold bR
               simp only[h1,h2,h3,h4,h5]
               rw[if_pos trivial];exact e
             | false=>
               rw[if_neg (by simp)]
               cases h6:bZ E elem with
               | none=>trivial
               | some size=>cases h7:fm E elem with
                 | none=>trivial
                 | some bytes=>cases h8:ff E elem with
                   | none=>trivial
                   | some z=>
                     simp only
                     by_cases h9:z.cells.length=size
                     · rw[if_pos h9]
                       exact fin _ fun r h p e=>Wn h1 h2 h3 h4 h5 h6 h7 h8 h9 e
                     · rw[if_neg h9];trivial
           | _=>trivial
theorem M9 (a:Array Operand) (t:Array TypeId):fK E F n (.call ⟨.builtin .copy,a,t⟩) (match a.toList with
 | [s,x]=>wO E F n s (fun gs=>wO E F n x (fun gx=> .wr fun r h=>uy E h t (gs r) (gx r)) .bad) .bad
 | _=> .bad):=by
 have nn:sx E (.call ⟨.builtin .copy,a,t⟩):=kT (by simp) (by simp) (by simp) (by simp) a t
 generalize hl:a.toList=l
 match l with
 | []=>trivial
 | [_]=>trivial
 | _::_::_::_=>trivial
 | [s,x]=>
   simp only
   rcases bY E F n s (fun gs=>wO E F n x (fun gx=>(.wr fun r h=>uy E h t (gs r) (gx r):Kd F.T)) .bad) (.bad:Kd F.T) with h | ⟨gs,h,hs⟩<;>rw[h]
   · trivial
   rcases bY E F n x (fun gx=>(.wr fun r h=>uy E h t (gs r) (gx r):Kd F.T)) (.bad:Kd F.T) with h | ⟨gx,h,hx⟩<;>rw[h]
   · trivial
   refine ⟨nn,fun call r h rc o p ho e=>?_⟩
   simp only[dm,ho,hl,D7 (hs r) (hx r),e]
theorem KO (a:Array Operand) (t:Array TypeId):fK E F n (.call ⟨.builtin .recover,a,t⟩) (.ub fun _ _ h rc=>match rc with
 | .gV x=> .rq x
 | .rN _=> .fail "" none
 | _=> .val .nilIface h):=by
 refine ⟨kT (by simp) (by simp) (by simp) (by simp) a t,fun fc call _ r h rc o ho=>?_⟩
 simp only[dm,ho]
 cases rc<;>first | trivial | rfl
theorem aal (a:Array Operand) (t:Array TypeId):fK E F n (.call ⟨.builtin .len,a,t⟩) (match iG t.toList 0,a.toList with
 | some t,[x]=>wO E F n x (fun g=>match jB E.P t with
   | some .string=> .gD fun r=>qF (fun s=>some (.int .i64 (Int.ofNat (iE s)))) none (g r)
   | some (.array m _)=> .gD fun _=>some (.int .i64 (Int.ofNat m))
   | some (.slice _)=> .gD fun r=>jb (some (.int .i64 (Int.ofNat 0))) (fun _ _ m _ _=>some (.int .i64 (Int.ofNat m))) (vZ (some (.int .i64 (Int.ofNat 0))) none (g r)) (g r)
   | some (.map _ _)=> .red fun r h=>MP h (g r)
   | _=> .bad) .bad
 | _,_=> .bad):=by
 rw[gJ,Array.getElem?_toList]
 cases ht:t[0]? with
 | none=>trivial
 | some tt=>
   generalize hl:a.toList=l
   match l with
   | []=>trivial
   | _::_::_=>trivial
   | [x]=>
     simp only[iw]
     rcases bY E F n x (fun g=>match E.P.underlying tt with
      | some .string=>(.gD fun r=>qF (fun s=>some (.int .i64 (Int.ofNat (iE s)))) none (g r):Kd F.T)
      | some (.array m _)=> .gD fun _=>some (.int .i64 (Int.ofNat m))
      | some (.slice _)=> .gD fun r=>jb (some (.int .i64 (Int.ofNat 0))) (fun _ _ m _ _=>some (.int .i64 (Int.ofNat m))) (vZ (some (.int .i64 (Int.ofNat 0))) none (g r)) (g r)
      | some (.map _ _)=> .red fun r h=>MP h (g r)
      | _=> .bad) .bad with h | ⟨g,h,hg⟩<;>rw[h]
     · trivial
     cases hu:E.P.underlying tt with
     | none=>trivial
     | some d=>cases d with
       | string=>
         intro r v e
         obtain ⟨s,e1,e2⟩:=oe e
         simp only[bF,ht,hl,iL (hg r),hu,e1]
         rw[←e2,fD];rfl
       | array m el=>
         intro r v e
         simp only[bF,ht,hl,iL (hg r),hu]
         exact e
       | slice el=>
         intro r v e
         rcases Im e with ⟨e1,e2⟩ | ⟨i,o,l,c,b,e1,e2⟩ | ⟨e1,e2⟩
         · simp only[bF,ht,hl,iL (hg r),hu,e1];exact e2
         · simp only[bF,ht,hl,iL (hg r),hu,e1];exact e2
         · simp only[bF,ht,hl,iL (hg r),hu,e1];exact e2
       | map key el=>
         intro r h v e
         have e:MP h (g r)=some v:=e
         generalize hm:g r=m at e
         cases m with
         | dP=>exact .inl (by simp only[bF,ht,hl,iL (hg r),hu,hm];exact e)
         | map i=>
           refine .inr ⟨by simp only[bF,ht,hl,iL (hg r),hu,hm],?_⟩
           obtain ⟨o,h3,h4⟩:=gz (show ob none (fun o=>V2 (fun es=>some (AV.int .i64 (Int.ofNat (iE es)))) none o) (h.get i)=some v from e)
           cases o with
           | map es c=>
             have h4:some (AV.int .i64 (Int.ofNat (iE es)))=some v:=h4
             simp only[dS,ht,hl,iL (hg r),hu,hm,h3]
             rw[←h4,fD];rfl
           | _=>cases h4
         | _=>cases e
       | _=>trivial
theorem aam (a:Array Operand) (t:Array TypeId):fK E F n (.call ⟨.builtin .cap,a,t⟩) (match iG t.toList 0,a.toList with
 | some t,[x]=>wO E F n x (fun g=>match jB E.P t with
   | some (.slice _)=> .gD fun r=>jb (some (.int .i64 (Int.ofNat 0))) (fun _ _ _ c b=>bc b none (some (.int .i64 (Int.ofNat c)))) none (g r)
   | _=> .bad) .bad
 | _,_=> .bad):=by
 rw[gJ,Array.getElem?_toList]
 cases ht:t[0]? with
 | none=>trivial
 | some tt=>
   generalize hl:a.toList=l
   match l with
   | []=>trivial
   | _::_::_=>trivial
   | [x]=>
     simp only[iw]
     rcases bY E F n x (fun g=>match E.P.underlying tt with
      | some (.slice _)=>(.gD fun r=>jb (some (.int .i64 (Int.ofNat 0))) (fun _ _ _ c b=>bc b none (some (.int .i64 (Int.ofNat c)))) none (g r):Kd F.T)
      | _=> .bad) .bad with h | ⟨g,h,hg⟩<;>rw[h]
     · trivial
     cases hu:E.P.underlying tt with
     | none=>trivial
     | some d=>cases d with
       | slice el=>
         intro r v e
         rcases og e with ⟨e1,e2⟩ | ⟨i,o,l,c,b,e1,e2⟩
         · simp only[bF,ht,hl,iL (hg r),hu,e1];exact e2
         · obtain ⟨rfl,e3⟩:=qK e2
           simp only[bF,ht,hl,iL (hg r),hu,e1];exact e3
       | _=>trivial
theorem OJ (f:FuncId) (a:Array Operand) (t:Array TypeId):fK E F n (.call ⟨.value (.func f),a,t⟩) (wL E F n a.toList (fun gs=>match E.lX f with
 | some e=> .gD fun r=>e (gs r)
 | none=>match E.ij f with
   | some g=> .wr fun r h=>g (gs r) h
   | none=> .call (.fn f) gs) .bad):=by
 rcases tQ E F n a.toList (fun gs=>match E.lX f with
  | some e=>(.gD fun r=>e (gs r):Kd F.T)
  | none=>match E.ij f with
    | some g=> .wr fun r h=>g (gs r) h
    | none=> .call (.fn f) gs) .bad with h | ⟨gs,h,hg⟩<;>rw[h]
 · trivial
 cases hp:E.lX f with
 | some e=>
   intro r v h
   simp only[bF,hp,hg];exact h
 | none=>
   have nn:sx E (.call ⟨.value (.func f),a,t⟩):=⟨fun _=>by simp only[bF,hp],fun _ _=>rfl,fun _=>rfl⟩
   have hc:∀r,callee E (eW F n r) ⟨.value (.func f),a,t⟩=some (.fn f,gs r):=by
    intro r
    simp only[callee,hg,eh]
    simp
   cases hs:E.ij f with
   | some g=>
     refine ⟨nn,fun call r h rc o p ho e=>?_⟩
     have e':g (gs r) h=some p:=e
     simp only[dm,ho,hc,ju,hs,e']
   | none=>
     refine ⟨nn,fun call r h rc o ho=>?_⟩
     simp only[dm,ho,hc,ju,hs]
     cases call (.fn f) (gs r) h<;>rfl
theorem BE {a b:iQ} (h1:∀v h',a= .ret v h'→b= .ret v h') (h2:∀v h',a= .panic v h'→b= .panic v h'):Yn (mu a) (mu b):=by
 cases a with
 | ret v h=>rw[h1 v h rfl];rfl
 | panic v h=>rw[h2 v h rfl];rfl
 | fail _ _=>trivial
theorem vn (x:Operand) (hx:∀f,x≠ .func f) (a:Array Operand) (t:Array TypeId):fK E F n (.call ⟨.value x,a,t⟩) (wO E F n x (fun gf=>wL E F n a.toList (fun gs=> .ub fun call r h _=>ML
 (fun g first captured=>ob (mu (call (.fn g) (kN first (kN (gs r) captured)) h)) (fun sp=>ob (.fail "" none) (fun p=> .val p.1 p.2) (sp (kN first (kN (gs r) captured)) h)) (E.ij g))
 (fun l=>mu (call (.uV l) (gs r) h)) (.fail "" none) (gf r)) .bad) .bad):=by
 have nn:sx E (.call ⟨.value x,a,t⟩):=by
  cases x with
  | func f=>exact absurd rfl (hx f)
  | _=>exact ⟨fun _=>rfl,fun _ _=>rfl,fun _=>rfl⟩
 let K:(F.T→AV)→(F.T→List AV)→Kd F.T:=fun gf gs=> .ub fun call r h _=>ML
  (fun g first captured=>ob (mu (call (.fn g) (kN first (kN (gs r) captured)) h)) (fun sp=>ob (.fail "" none) (fun p=> .val p.1 p.2) (sp (kN first (kN (gs r) captured)) h)) (E.ij g))
  (fun l=>mu (call (.uV l) (gs r) h)) (.fail "" none) (gf r)
 show fK E F n _ (wO E F n x (fun gf=>wL E F n a.toList (fun gs=>K gf gs) .bad) .bad)
 rcases bY E F n x (fun gf=>wL E F n a.toList (fun gs=>K gf gs) .bad) .bad with h | ⟨gf,h,hf⟩<;>rw[h]
 · trivial
 rcases tQ E F n a.toList (fun gs=>K gf gs) .bad with h | ⟨gs,h,hg⟩<;>rw[h]
 · trivial
 refine ⟨nn,fun fc call hle r h rc o ho=>?_⟩
 have ec:∀R,callee E (eW F n r) ⟨.value x,a,t⟩=R→dm E call (eW F n r) h rc o=(match R with
  | some (f,args)=>match ju E f with
    | some g=>(match g args h with | some (x,h')=> .val x h' | none=> .fail "eff" (some o))
    | none=>mu (call f args h)
  | none=> .fail "callee" (some o)):=by
  intro R hR
  simp only[dm,ho,hR]
  cases R with
  | none=>rfl
  | some p=>
    obtain ⟨f,args⟩:=p
    simp only
    cases ju E f with
    | none=>simp only;cases call f args h<;>rfl
    | some g=>rfl
 show Yn (ML _ _ _ (gf r)) _
 cases hv:gf r with
 | func g first captured=>
   have hc:callee E (eW F n r) ⟨.value x,a,t⟩=some (.fn g,first++gs r++captured):=by
    simp only[callee,hf,hg,hv]
   rw[ec _ hc]
   have ha:kN first (kN (gs r) captured)=first++gs r++captured:=by rw[nr,nr,List.append_assoc]
   show Yn (ob (mu (fc (.fn g) (kN first (kN (gs r) captured)) h)) (fun sp=>ob (.fail "" none) (fun p=> .val p.1 p.2) (sp (kN first (kN (gs r) captured)) h)) (E.ij g)) _
   rw[ha]
   simp only[ju]
   cases hs:E.ij g with
   | none=>exact BE (hle _ _ _).1 (hle _ _ _).2
   | some sp=>
     show Yn (ob (.fail "" none) (fun p=> .val p.1 p.2) (sp (first++gs r++captured) h)) _
     simp only
     cases sp (first++gs r++captured) h with
     | none=>trivial
     | some p=>rfl
 | cO l=>
   have hc:callee E (eW F n r) ⟨.value x,a,t⟩=some (.uV l,gs r):=by
    simp only[callee,hf,hg,hv]
   rw[ec _ hc]
   simp only[ju]
   exact BE (hle _ _ _).1 (hle _ _ _).2
 | _=>trivial
theorem OL (x:Operand) (name:String) (a:Array Operand) (t:Array TypeId):fK E F n (.call ⟨.invoke x name,a,t⟩) (wO E F n x (fun gx=>wL E F n a.toList (fun gs=> .ub fun call r h _=>qG
 (fun t v=>ob (.fail "" none) (fun f=>mu (call (.fn f) (v::gs r) h)) (Ij E t name)) (.fail "" none) (gx r)) .bad) .bad):=by
 have nn:sx E (.call ⟨.invoke x name,a,t⟩):=⟨fun _=>rfl,fun _ _=>rfl,fun _=>rfl⟩
 let K:(F.T→AV)→(F.T→List AV)→Kd F.T:=fun gx gs=> .ub fun call r h _=>qG
  (fun t v=>ob (.fail "" none) (fun f=>mu (call (.fn f) (v::gs r) h)) (Ij E t name)) (.fail "" none) (gx r)
 show fK E F n _ (wO E F n x (fun gx=>wL E F n a.toList (fun gs=>K gx gs) .bad) .bad)
 rcases bY E F n x (fun gx=>wL E F n a.toList (fun gs=>K gx gs) .bad) .bad with h | ⟨gx,h,hx⟩<;>rw[h]
 · trivial
 rcases tQ E F n a.toList (fun gs=>K gx gs) .bad with h | ⟨gs,h,hg⟩<;>rw[h]
 · trivial
 refine ⟨nn,fun fc call hle r h rc o ho=>?_⟩
 show Yn (qG _ _ (gx r)) _
 cases hv:gx r with
 | iface u v=>
   show Yn (ob (.fail "" none) (fun f=>mu (fc (.fn f) (v::gs r) h)) (Ij E u name)) _
   cases hm:Ij E u name with
   | none=>trivial
   | some f=>
     have U':vX E u name=some f:=hm
     have ec:dm E call (eW F n r) h rc o=mu (call (.fn f) (v::gs r) h):=by
      simp only[dm,ho,hx,hg,hv,U']
      cases call (.fn f) (v::gs r) h<;>rfl
     rw[ec]
     exact BE (hle _ _ _).1 (hle _ _ _).2
 | _=>trivial
theorem RL (c:Call):fK E F n (.call c) (Yj E F n c (.call c)):=by
 obtain ⟨dh,a,t⟩:=c
 cases dh with
 | value x=>cases x with
   | func f=>exact OJ f a t
   | tmp x=>exact vn (.tmp x) (by simp) a t
   | const x=>exact vn (.const x) (by simp) a t
   | global x=>exact vn (.global x) (by simp) a t
 | invoke r m=>exact OL r m a t
 | builtin b=>cases b with
   | append=>exact OI a t
   | copy=>exact M9 a t
   | recover=>exact KO a t
   | len=>exact aal a t
   | cap=>exact aam a t
   | max=>exact fun r v e=>e
   | min=>exact fun r v e=>e
   | _=>trivial
theorem Iv (op:Op):fK E F n op (uD E F n op):=by
 cases op with
 | move x=>
   show fK E F n _ (wO E F n x .Hj .bad)
   rcases bY E F n x .Hj (.bad:Kd F.T) with h | ⟨g,h,hg⟩<;>rw[h]
   · trivial
   · exact hg
 | assign x=>
   show fK E F n _ (wO E F n x .Hj .bad)
   rcases bY E F n x .Hj (.bad:Kd F.T) with h | ⟨g,h,hg⟩<;>rw[h]
   · trivial
   · exact hg
 | pick c a b=>exact Wi c a b
 | binOp op t x y yt=>
   show fK E F n _ (wO E F n x (fun gx=>wO E F n y (fun gy=>cE op (jM E op t (isConst x) (isConst y)) gx gy) .bad) .bad)
   rcases bY E F n x (fun gx=>wO E F n y (fun gy=>cE op (jM E op t (isConst x) (isConst y)) gx gy) .bad) (.bad:Kd F.T) with h | ⟨gx,h,hx⟩<;>rw[h]
   · trivial
   rcases bY E F n y (fun gy=>cE op (jM E op t (isConst x) (isConst y)) gx gy) (.bad:Kd F.T) with h | ⟨gy,h,hy⟩<;>rw[h]
   · trivial
   exact Wg op t x y yt gx gy hx hy
 | unOp op t x=>
   show fK E F n _ (wO E F n x (unK op) .bad)
   rcases bY E F n x (unK op) (.bad:Kd F.T) with h | ⟨g,h,hg⟩<;>rw[h]
   · trivial
   exact aaf op t x g hg
 | fieldAddr s x f=>exact F4 s x f
 | load t a=>exact Wh t a
 | store t a x=>exact RD t a x
 | nilCheck x=>exact Iq x
 | extract x i=>exact KM x i
 | field s x f=>exact Rz s x f
 | indexAddr t x ix=>exact F5 t x ix
 | index t x ix=>exact RA t x ix
 | slice t x lo hi mx=>cases mx with
   | none=>exact RB t x lo hi
   | some m=>exact fun r v e=>e
 | convert s d x=>exact KN s d x
 | makeInterface t x=>exact yN t x
 | makeFunc f a b=>cases f with
   | func f=>exact Is f a b
   | _=>trivial
 | alloc t=>exact RE t
 | box t x=>exact aaj t x
 | buildSlice t len parts=>exact Dm t len parts
 | makeSlice t l c=>exact F6 t l c
 | makeMap t r=>cases r with
   | none=>exact ⟨fun _=>rfl,fun _ _=>rfl,fun r p e=>e⟩
   | some x=>exact ⟨fun _=>rfl,fun _ _=>rfl,fun r p e=>e⟩
 | range t x=>exact ⟨fun _=>rfl,fun _ _=>rfl,fun r p e=>e⟩
 | lookup t x ix ok=>exact OF t x ix ok
 | build t parts=>exact RH t parts
 | typeAssert x a b ok=>exact fun r v e=>e
 | mapUpdate t m k x=>exact F7 t m k x
 | insert t m k x=>exact OG t m k x
 | next it s=>exact Wl it s
 | panic x=>exact RI x
 | defer c=>exact RJ c
 | call c=>exact RL c
 | _=>trivial
end Go.Ab.Fa
end
section
namespace Go.Ab.Fa
variable {E:Env} {F:RF} {n:Nat}
def rH (_E:Env) (F:RF) (n:Nat) (o:FO F.T) (out:Out):Prop:=match o with
 | .Ig r h y=>out= .ok .normal ⟨eW F n r,h,y.ds,y.rc⟩
 | .jmp e r h y=>e≠ .normal∧out= .ok e ⟨eW F n r,h,y.ds,y.rc⟩
 | .bad=>True
theorem F8 {call:bj} {s:St} {o:Oper} {v:AV} (h:bF E s.ts o.op=some v):E6 E call s o= .ok .normal {s with ts:=dJ s.ts o.dst v}:=by
 simp only[E6,h]
theorem Wo {call:bj} {s:St} {o:Oper} {v:AV} (h0:bF E s.ts o.op=none) (h:dS E s.ts s.h o.op=some v):E6 E call s o= .ok .normal {s with ts:=dJ s.ts o.dst v}:=by
 simp only[E6,h0,h]
theorem F9 {call:bj} {s:St} {o:Oper} (nn:sx E o.op):E6 E call s o=(match dm E call s.ts s.h s.rc o with
 | .val v h'=> .ok .normal {s with ts:=dJ s.ts o.dst v,h:=h'}
 | .defer d=> .ok .normal {s with ts:=dJ s.ts o.dst AV.undef,ds:=d::s.ds}
 | .rq v=> .ok .normal {s with ts:=dJ s.ts o.dst v,rc:= .done}
 | .panic v h'=> .ok (.panic v) {s with h:=h'}
 | .fail why q=> .fail why q):=by
 simp only[E6,nn.1,nn.2.1,nn.2.2]
 generalize dm E call s.ts s.h s.rc o=x
 cases x<;>rfl
noncomputable def ac8 (E:Env) (call:bj) (ops:Array Oper) (rest:List Oper) (out:Out):Out:=match out with
 | .ok .normal s'=>jO E call ops rest s'
 | r=>r
theorem Wq {ops:Array Oper} {o:Oper} {rest:List Oper} {kd:Kd F.T} {s:AV→F.T→F.T} {j:I F.T} {fc call:bj} (hle:jV fc call) (hk:fK E F n o.op kd)
 (hs:∀v r,dJ (eW F n r) o.dst v=eW F n (s v r)) (hj:∀r h y,rH E F n (j.run fc r h y) (jO E call ops rest ⟨eW F n r,h,y.ds,y.rc⟩)) (r:F.T) (h:aw) (y:Y):
 rH E F n ((KE kd s j).run fc r h y) (ac8 E call ops rest (E6 E call ⟨eW F n r,h,y.ds,y.rc⟩ o)):=by
 cases kd with
 | Hj g=>
   rw[F8 (s:=⟨eW F n r,h,y.ds,y.rc⟩) (hk r)]
   show rH E F n (j.run fc (s (g r) r) h y) (jO E call ops rest ⟨dJ (eW F n r) o.dst (g r),h,y.ds,y.rc⟩)
   rw[hs];exact hj _ _ _
 | gD f=>
   show rH E F n (ob .bad (fun v=>j.run fc (s v r) h y) (f r)) _
   cases hf:f r with
   | none=>trivial
   | some v=>
     rw[F8 (s:=⟨eW F n r,h,y.ds,y.rc⟩) (hk r v hf)]
     show rH E F n (j.run fc (s v r) h y) (jO E call ops rest ⟨dJ (eW F n r) o.dst v,h,y.ds,y.rc⟩)
     rw[hs];exact hj _ _ _
 | red f=>
   show rH E F n (ob .bad (fun v=>j.run fc (s v r) h y) (f r h)) _
   cases hf:f r h with
   | none=>trivial
   | some v=>
     rcases hk r h v hf with h0 | ⟨h0,h1⟩
     · rw[F8 (s:=⟨eW F n r,h,y.ds,y.rc⟩) h0]
       show rH E F n (j.run fc (s v r) h y) (jO E call ops rest ⟨dJ (eW F n r) o.dst v,h,y.ds,y.rc⟩)
       rw[hs];exact hj _ _ _
     rw[Wo (s:=⟨eW F n r,h,y.ds,y.rc⟩) h0 h1]
     show rH E F n (j.run fc (s v r) h y) (jO E call ops rest ⟨dJ (eW F n r) o.dst v,h,y.ds,y.rc⟩)
     rw[hs];exact hj _ _ _
 | rV f=>
   obtain ⟨h0,h1,h2⟩:=hk
   show rH E F n (ob .bad (fun p=>ob .bad (fun h'=>j.run fc (s (p.2 h.nx) r) h' y) (h.new p.1)) (f r)) _
   cases hf:f r with
   | none=>trivial
   | some p=>
     obtain ⟨obj,mk⟩:=p
     show rH E F n (ob .bad (fun h'=>j.run fc (s (mk h.nx) r) h' y) (h.new obj)) _
     cases hh:h.new obj with
     | none=>trivial
     | some h'=>
       have:E6 E call ⟨eW F n r,h,y.ds,y.rc⟩ o= .ok .normal ⟨dJ (eW F n r) o.dst (mk h.nx),h',y.ds,y.rc⟩:=by
        simp only[E6,h0,h1,h2 r _ hf,hh]
       rw[this,hs];exact hj _ _ _
 | wr f=>
   obtain ⟨nn,h1⟩:=hk
   show rH E F n (ob .bad (fun p=>j.run fc (s p.1 r) p.2 y) (f r h)) _
   cases hf:f r h with
   | none=>trivial
   | some p=>
     rw[F9 nn,h1 call r h y.rc o p rfl hf]
     show rH E F n (j.run fc (s p.1 r) p.2 y) (jO E call ops rest ⟨dJ (eW F n r) o.dst p.1,p.2,y.ds,y.rc⟩)
     rw[hs];exact hj _ _ _
 | call g args=>
   obtain ⟨nn,h1⟩:=hk
   rw[F9 nn,h1 call r h y.rc o rfl]
   show rH E F n (iQ.rec (motive:=fun _=>FO F.T) (fun v h'=>j.run fc (s v r) h' y) (fun v h'=> .jmp (.panic v) r h' y) (fun _ _=> .bad) (fc g (args r) h)) _
   cases hc:fc g (args r) h with
   | fail _ _=>trivial
   | ret v h'=>
     rw[(hle _ _ _).1 v h' hc]
     show rH E F n (j.run fc (s v r) h' y) (jO E call ops rest ⟨dJ (eW F n r) o.dst v,h',y.ds,y.rc⟩)
     rw[hs];exact hj _ _ _
   | panic v h'=>
     rw[(hle _ _ _).2 v h' hc]
     exact ⟨by simp,rfl⟩
 | ub f=>
   obtain ⟨nn,h1⟩:=hk
   rw[F9 nn]
   have h2:=h1 fc call hle r h y.rc o rfl
   show rH E F n (yj.rec (motive:=fun _=>FO F.T) (fun v h'=>j.run fc (s v r) h' y) (fun d=>j.run fc (s AV.undef r) h ⟨d::y.ds,y.rc⟩) (fun v=>j.run fc (s v r) h ⟨y.ds,.done⟩)
    (fun v h'=> .jmp (.panic v) r h' y) (fun _ _=> .bad) (f fc r h y.rc)) _
   cases he:f fc r h y.rc with
   | fail _ _=>trivial
   | val v h'=>
     rw[he] at h2
     have h2:dm E call (eW F n r) h y.rc o= .val v h':=h2
     rw[h2]
     show rH E F n (j.run fc (s v r) h' y) (jO E call ops rest ⟨dJ (eW F n r) o.dst v,h',y.ds,y.rc⟩)
     rw[hs];exact hj _ _ _
   | defer d=>
     rw[he] at h2
     have h2:dm E call (eW F n r) h y.rc o= .defer d:=h2
     rw[h2]
     show rH E F n (j.run fc (s AV.undef r) h ⟨d::y.ds,y.rc⟩) (jO E call ops rest ⟨dJ (eW F n r) o.dst AV.undef,h,d::y.ds,y.rc⟩)
     rw[hs];exact hj _ _ ⟨d::y.ds,y.rc⟩
   | rq v=>
     rw[he] at h2
     have h2:dm E call (eW F n r) h y.rc o= .rq v:=h2
     rw[h2]
     show rH E F n (j.run fc (s v r) h ⟨y.ds,.done⟩) (jO E call ops rest ⟨dJ (eW F n r) o.dst v,h,y.ds,.done⟩)
     rw[hs];exact hj _ _ ⟨y.ds,.done⟩
   | panic v h'=>
     rw[he] at h2
     have h2:dm E call (eW F n r) h y.rc o= .panic v h':=h2
     rw[h2]
     exact ⟨by simp,rfl⟩
 | bad=>trivial
def yO (ts:List AV) (d:Nat) (want:Bool):Bool:=match ts[d]? with
 | some (.bool b)=>b==want
 | _=>false
theorem zG {ts:List AV} {d:Nat} (h:ts.length≤d) (want:Bool):yO ts d want=false:=by
 unfold yO;rw[List.getElem?_eq_none h]
theorem zH {ts:List AV} {d:Nat} {v:AV} (h:ts[d]? =some v) (want:Bool):yO ts d want=ja (fun b=>b==want) false v:=by
 unfold yO;rw[h];cases v<;>rfl
theorem wG (ops:Array Oper) (ts:List AV) (o:Oper) {j:Nat} {want:Bool} (hg:o.guard=some (j,want)):cz ops ts o=(match (ops[j]?).bind (·.dst) with
 | some d=>match ts[d]? with
   | some (.bool b)=>b==want
   | _=>false
 | none=>false):=by simp only[cz,hg];rfl
theorem RM (ops:Array Oper) (j:Nat):ob none (fun p=>p.dst) (iG ops.toList j)=(ops[j]?).bind (·.dst):=by
 rw[gJ,Array.getElem?_toList];cases ops[j]? <;>rfl
theorem RN (_hn:n≤F.N) (ops:Array Oper) (o:Oper) (a b:I F.T) (call:bj) (r:F.T) (h:aw) (y:Y):
 (MS F n ops o a b).run call r h y=bif cz ops (eW F n r) o then a.run call r h y else b.run call r h y:=by
 unfold MS
 cases hg:o.guard with
 | none=>simp only[cz,hg];rfl
 | some p=>
   obtain ⟨j,want⟩:=p
   rw[wG ops _ o hg]
   simp only[RM]
   cases (ops[j]?).bind (·.dst) with
   | none=>rfl
   | some d=>
     show (bc (Nat.ble n d) b (KH (F.get d).f want a b)).run call r h y=bif yO (eW F n r) d want then a.run call r h y else b.run call r h y
     cases hd:Nat.ble n d with
     | true=>
       rw[zG (by rw[iv];exact ft hd)];rfl
     | false=>
       rw[zH (tM F n r (jU hd)),dV]
       cases want with
       | true=>
         show ja (fun t=>bc t (a.run call r h y) (b.run call r h y)) (b.run call r h y) ((F.get d).f r)=_
         cases (F.get d).f r with
         | bool t=>cases t<;>rfl
         | _=>rfl
       | false=>
         show ja (fun t=>bc t (b.run call r h y) (a.run call r h y)) (b.run call r h y) ((F.get d).f r)=_
         cases (F.get d).f r with
         | bool t=>cases t<;>rfl
         | _=>rfl
theorem Iw (_hn:n≤F.N) (ops:Array Oper) (o:Oper) (a b:D F.T) (call:bj) (r:F.T) (h:aw) (y:Y):
 (zD F n ops o a b).run call r h y=bif cz ops (eW F n r) o then a.run call r h y else b.run call r h y:=by
 unfold zD
 cases hg:o.guard with
 | none=>simp only[cz,hg];rfl
 | some p=>
   obtain ⟨j,want⟩:=p
   rw[wG ops _ o hg]
   simp only[RM]
   cases (ops[j]?).bind (·.dst) with
   | none=>rfl
   | some d=>
     show (bc (Nat.ble n d) b (Rl (F.get d).f want a b)).run call r h y=bif yO (eW F n r) d want then a.run call r h y else b.run call r h y
     cases hd:Nat.ble n d with
     | true=>
       rw[zG (by rw[iv];exact ft hd)];rfl
     | false=>
       rw[zH (tM F n r (jU hd)),dV]
       cases want with
       | true=>
         show ja (fun t=>bc t (a.run call r h y) (b.run call r h y)) (b.run call r h y) ((F.get d).f r)=_
         cases (F.get d).f r with
         | bool t=>cases t<;>rfl
         | _=>rfl
       | false=>
         show ja (fun t=>bc t (b.run call r h y) (a.run call r h y)) (b.run call r h y) ((F.get d).f r)=_
         cases (F.get d).f r with
         | bool t=>cases t<;>rfl
         | _=>rfl
theorem BF (hn:n≤F.N) {fc call:bj} (hle:jV fc call) (ops:Array Oper):∀(l:List Oper) (r:F.T) (h:aw) (y:Y),
 rH E F n ((tP E F n ops l).run fc r h y) (jO E call ops l ⟨eW F n r,h,y.ds,y.rc⟩)
 | [],r,h,y=>rfl
 | o::rest,r,h,y=>by
   have ih:=BF hn hle ops rest
   show rH E F n ((Ri E F n ops o (tP E F n ops rest)).run fc r h y) _
   unfold Ri
   obtain ⟨s,h1,hs⟩:=M7 F n hn o.dst (fun s=>MS F n ops o (KE (uD E F n o.op) s (tP E F n ops rest)) (Yk s (tP E F n ops rest)))
   rw[h1,RN hn]
   rw[jO]
   cases hw:cz ops (eW F n r) o with
   | true=>
     rw[if_pos rfl]
     exact Wq hle (Iv o.op) hs ih r h y
   | false=>
     rw[if_neg (by simp)]
     show rH E F n ((tP E F n ops rest).run fc (s AV.undef r) h y) _
     simp only[hs]
     exact ih _ _ _
def madeOf:TK→Option Nat
 | .rV n _=>some n
 | _=>none
theorem wH (x:Step) (t:List Step):qp (x::t)=match madeOf x.kind with | none=>qp t | some i=>i::qp t:=by
 show List.filterMap (fun x:Step=>madeOf x.kind) (x::t)=_
 rw[List.filterMap_cons];cases madeOf x.kind<;>rfl
inductive pc (E:Env) (ops:Array Oper) (pl:lL):List OB→List Step→Prop
 | nil:pc E ops pl [] []
 | skip {x:Step} {c:List OB} {t:List Step} (hs:∀h,iY E ops x h=true) (hm:madeOf x.kind=none) (ht:pc E ops pl c t):pc E ops pl c (x::t)
 | Wr {x:Step} {c0:OB} {c:List OB} {t:List Step} (hk:c0.k=x.k) (hl:c0.m=jP pl.bP pl.an x.i+1 - x.k) (hm:madeOf x.kind=c0.made)
  (hs:∀h,c0.f h=true→iY E ops x h=true) (ht:pc E ops pl c t):pc E ops pl (c0::c) (x::t)
theorem pc.made {ops:Array Oper} {pl:lL} {c:List OB} {t:List Step} (h:pc E ops pl c t):MW c=qp t:=by
 induction h with
 | nil=>rfl
 | skip hs hm ht ih=>rw[wH,hm];exact ih
 | Wr hk hl hm hs ht ih=>
   rename_i x c0 c t
   show ob (MW c) (fun i=>i::MW c) c0.made=_
   rw[wH,hm,ih]
   cases c0.made<;>rfl
theorem pc.all {ops:Array Oper} {pl:lL} {hs:List aw} {c:List OB} {t:List Step} (h:pc E ops pl c t) (e:c.all (fun x=>yG x.f (so (sm hs x.k) x.m))=true):
 t.all (fun x=>((hs.drop x.k).take (jP pl.bP pl.an x.i+1 - x.k)).all (iY E ops x))=true:=by
 induction h with
 | nil=>rfl
 | skip qw hm ht ih=>
   rw[List.all_cons,ih e,Bool.and_true,List.all_eq_true]
   intro h _;exact qw h
 | Wr hk hl hm qw ht ih=>
   rw[List.all_cons,Bool.and_eq_true] at e
   rw[List.all_cons,ih e.2,Bool.and_true,List.all_eq_true]
   have e1:=e.1
   rw[qH,pY,pX,List.all_eq_true,hk,hl] at e1
   intro h hh;exact qw h (e1 h hh)
theorem BG {ops:Array Oper} {pl:lL} {hs:List aw} {c:List OB} {t:List Step} (h:pc E ops pl c t) (e:qJ c hs=true):qq E ops pl t hs=true:=by
 unfold qJ at e
 rw[od,Bool.and_eq_true,yJ,qH,h.made] at e
 unfold qq
 rw[Bool.and_eq_true]
 exact ⟨e.1,h.all e.2⟩
def C_ (E:Env) (F:RF) (n:Nat) (ops:Array Oper) (pl:lL) (d:DO F.T) (t:jv):Prop:=match d with
 | .ok tr hs r h y=>∃JY,t= .ok JY hs ⟨eW F n r,h,y.ds,y.rc⟩∧pc E ops pl tr JY
 | .bad=>True
theorem C_.skip {ops:Array Oper} {pl:lL} {d:DO F.T} {t:jv} (h:C_ E F n ops pl d t) {x:Step} (hs:∀h,iY E ops x h=true) (hm:madeOf x.kind=none):C_ E F n ops pl d (t.step x):=by
 cases d with
 | bad=>trivial
 | ok tr qw r h' y=>
   obtain ⟨JY,rfl,h2⟩:=h
   exact ⟨x::JY,rfl,.skip hs hm h2⟩
theorem C_.bound {ops:Array Oper} {pl:lL} {d:DO F.T} {t:jv} (h:C_ E F n ops pl d t) (h0:aw):C_ E F n ops pl (qI h0 d) (t.bound h0):=by
 cases d with
 | bad=>trivial
 | ok tr qw r h' y=>
   obtain ⟨JY,rfl,h2⟩:=h
   exact ⟨JY,rfl,h2⟩
theorem C_.Wr {ops:Array Oper} {pl:lL} {d:DO F.T} {t:jv} (h:C_ E F n ops pl d t) {x:Step} {c:OB} (hk:c.k=x.k) (hl:c.m=jP pl.bP pl.an x.i+1 - x.k)
 (hm:madeOf x.kind=c.made) (hs:∀h,c.f h=true→iY E ops x h=true):C_ E F n ops pl (D5 c d) (t.step x):=by
 cases d with
 | bad=>trivial
 | ok tr qw r h' y=>
   obtain ⟨JY,rfl,h2⟩:=h
   exact ⟨x::JY,rfl,.Wr hk hl hm hs h2⟩
theorem Ix:∀(m:Nat) (x y:AV),Bw m x y=true→AV.same m x y=true
 | 0,_,_,e=>by cases e
 | m+1,x,y,e=>by
   have ih:=Ix m
   have all:∀(a b:List AV),leq (Bw m) a b=true→cM (AV.same m) a b=true:=by
    intro a
    induction a with
    | nil=>intro b;cases b<;>intro e<;>first | rfl | cases e
    | cons x tl ihl=>
      intro b
      cases b with
      | nil=>intro e;cases e
      | cons y tm=>
        intro e
        have e:bc (Bw m x y) (leq (Bw m) tl tm) false=true:=e
        rw[od,Bool.and_eq_true] at e
        rw[cM,Bool.and_eq_true]
        exact ⟨ih _ _ e.1,ihl _ e.2⟩
   cases x with
   | int k a=>cases y with
     | int j b=>
       have e:bc (Q3 k j) (Yf a b) false=true:=e
       rw[od,Bool.and_eq_true,KJ] at e
       rw[AV.same,M1 e.1,e.2];simp
     | _=>cases e
   | str a=>cases y with
     | str b=>
       have e:leq Bq a b=true:=e
       rw[KL] at e
       rw[AV.same];exact e
     | _=>cases e
   | ptr i o=>cases y with
     | ptr j p=>
       have e:bc (Nat.beq i j) (Nat.beq o p) false=true:=e
       rw[od,Bool.and_eq_true] at e
       rw[AV.same,lN e.1,lN e.2];simp
     | _=>cases e
   | bool a=>cases y with
     | bool b=>
       have e:bc a b (vl b)=true:=e
       rw[AV.same]
       cases a<;>cases b<;>first | rfl | cases e
     | _=>cases e
   | agg a=>cases y with
     | agg b=>rw[AV.same];exact all a b e
     | _=>cases e
   | _=>exact e
theorem BH (hn:n≤F.N) {fc call:bj} (hle:jV fc call) (ops:Array Oper) (pl:lL):∀(l:List Nat) (k:Nat) (r:F.T) (h:aw) (y:Y),
 C_ E F n ops pl ((iU E F n ops pl l k).run fc r h y) (cR E call ops l k ⟨eW F n r,h,y.ds,y.rc⟩)
 | [],k,r,h,y=>⟨[],rfl,.nil⟩
 | i::rest,k,r,h,y=>by
   have ih:=BH hn hle ops pl rest
   rw[cR]
   show C_ E F n ops pl (D.run (ob ⟨fun _ _ _ _=> .bad⟩ (fun o=>wS F n o.dst fun s=>
    bc (pV E o.op) (canon (k+1) fun k'=>zD F n ops o (MT (uD E F n o.op) s (iU E F n ops pl rest k')) (KI s (iU E F n ops pl rest k')))
     (canon (AP pl.bP pl.an i+1 - k) fun m=>zD F n ops o (MU k m (uD E F n o.op) s (iU E F n ops pl rest k)) (Rj s (iU E F n ops pl rest k)))) (iG ops.toList i)) fc r h y) _
   rw[gJ,Array.getElem?_toList]
   cases ho:ops[i]? with
   | none=>trivial
   | some o=>
     have fP:(ops.getD i default).op=o.op:=by rw[Array.getD_eq_getD_getElem?,ho];rfl
     simp only[V5,kO,sv,KC]
     obtain ⟨s,h1,hs⟩:=M7 F n hn o.dst (fun s=>
      bc (fj E o.op) (zD F n ops o (MT (uD E F n o.op) s (iU E F n ops pl rest (k+1))) (KI s (iU E F n ops pl rest (k+1))))
      (zD F n ops o (MU k (jP pl.bP pl.an i+1 - k) (uD E F n o.op) s (iU E F n ops pl rest k)) (Rj s (iU E F n ops pl rest k))))
     rw[h1]
     have hk:=Iv (E:=E) (F:=F) (n:=n) o.op
     generalize uD E F n o.op=kd at hk
     cases he:fj E o.op with
     | true=>
       rw[iV,Iw hn,if_pos rfl]
       cases hw:cz ops (eW F n r) o with
       | false=>
         rw[if_neg (by simp)]
         show C_ E F n ops pl (qI h ((iU E F n ops pl rest (k+1)).run fc (s AV.undef r) h y)) _
         simp only[hs]
         exact ((ih _ _ _ _).bound h).skip (fun _=>rfl) rfl
       | true=>
         rw[if_pos rfl]
         show C_ E F n ops pl ((MT kd s (iU E F n ops pl rest (k+1))).run fc r h y) _
         cases kd with
         | wr f=>
           show C_ E F n ops pl (ob .bad (fun p=>qI h ((iU E F n ops pl rest (k+1)).run fc (s p.1 r) p.2 y)) (f r h)) _
           cases hf:f r h with
           | none=>trivial
           | some p=>
             simp only[hk.2 call r h y.rc o p rfl hf,hs]
             exact ((ih _ _ _ _).bound h).skip (fun _=>rfl) rfl
         | call g args=>
           show C_ E F n ops pl (iQ.rec (motive:=fun _=>DO F.T) (fun v h'=>qI h ((iU E F n ops pl rest (k+1)).run fc (s v r) h' y)) (fun _ _=> .bad) (fun _ _=> .bad) (fc g (args r) h)) _
           cases hc:fc g (args r) h with
           | fail _ _=>trivial
           | panic _ _=>trivial
           | ret v h'=>
             simp only[hk.2 call r h y.rc o rfl,(hle _ _ _).1 v h' hc,mu,hs]
             exact ((ih _ _ _ _).bound h).skip (fun _=>rfl) rfl
         | ub f=>
           show C_ E F n ops pl (yj.rec (motive:=fun _=>DO F.T) (fun v h'=>qI h ((iU E F n ops pl rest (k+1)).run fc (s v r) h' y)) (fun _=> .bad) (fun _=> .bad) (fun _ _=> .bad) (fun _ _=> .bad) (f fc r h y.rc)) _
           have h2:=hk.2 fc call hle r h y.rc o rfl
           cases hf:f fc r h y.rc with
           | val v h'=>
             rw[hf] at h2
             have h2:dm E call (eW F n r) h y.rc o= .val v h':=h2
             simp only[h2,hs]
             exact ((ih _ _ _ _).bound h).skip (fun _=>rfl) rfl
           | _=>trivial
         | _=>trivial
     | false=>
       rw[dV,Iw hn,if_neg (by simp)]
       cases hw:cz ops (eW F n r) o with
       | false=>
         rw[if_neg (by simp)]
         show C_ E F n ops pl ((iU E F n ops pl rest k).run fc (s AV.undef r) h y) _
         simp only[hs]
         exact (ih _ _ _ _).skip (fun _=>rfl) rfl
       | true=>
         rw[if_pos rfl]
         show C_ E F n ops pl ((MU k (jP pl.bP pl.an i+1 - k) kd s (iU E F n ops pl rest k)).run fc r h y) _
         cases kd with
         | Hj g=>
           simp only[hk r,hs]
           exact (ih _ _ _ _).skip (fun _=>rfl) rfl
         | gD f=>
           show C_ E F n ops pl (ob .bad (fun v=>(iU E F n ops pl rest k).run fc (s v r) h y) (f r)) _
           cases hf:f r with
           | none=>trivial
           | some v=>
             simp only[hk r v hf,hs]
             exact (ih _ _ _ _).skip (fun _=>rfl) rfl
         | red f=>
           show C_ E F n ops pl (ob .bad (fun v=>D5 ⟨k,_,none,fun h'=>ob false (fun v'=>Bw 20 v' v) (f r h')⟩ ((iU E F n ops pl rest k).run fc (s v r) h y)) (f r h)) _
           cases hf:f r h with
           | none=>trivial
           | some v=>
             rcases hk r h v hf with q0 | ⟨q0,q1⟩
             · simp only[q0,hs]
               exact (ih _ _ _ _).Wr rfl rfl rfl fun h' _=>rfl
             simp only[q0,q1,hs]
             refine (ih _ _ _ _).Wr rfl rfl rfl fun h' e=>?_
             have e:ob false (fun v'=>Bw 20 v' v) (f r h')=true:=e
             cases hf':f r h' with
             | none=>rw[hf'] at e;cases e
             | some v'=>
               rw[hf'] at e
               rcases hk r h' v' hf' with q2 | ⟨_,q3⟩
               · rw[q0] at q2;cases q2
               simp only[iY,fP,q3]
               exact Ix 20 v' v e
         | rV f=>
           obtain ⟨h3,h4,h5⟩:=hk
           show C_ E F n ops pl (ob .bad (fun p=>ob .bad (fun h'=>D5 ⟨k,_,some h.nx,fun MV=>ob false (fun o=>aR.same o p.1) (MV.get h.nx)⟩ ((iU E F n ops pl rest k).run fc (s (p.2 h.nx) r) h' y)) (h.new p.1)) (f r)) _
           cases hf:f r with
           | none=>trivial
           | some p=>
             obtain ⟨obj,mk⟩:=p
             show C_ E F n ops pl (ob .bad (fun h'=>D5 ⟨k,_,some h.nx,fun MV=>ob false (fun o=>aR.same o obj) (MV.get h.nx)⟩ ((iU E F n ops pl rest k).run fc (s (mk h.nx) r) h' y)) (h.new obj)) _
             cases hh:h.new obj with
             | none=>trivial
             | some h'=>
               simp only[h3,h4,h5 r _ hf,hh,hs]
               refine (ih _ _ _ _).Wr rfl rfl rfl fun MV e=>?_
               have e:ob false (fun o=>aR.same o obj) (MV.get h.nx)=true:=e
               cases hf':MV.get h.nx with
               | none=>rw[hf'] at e;cases e
               | some o'=>
                 rw[hf'] at e
                 simp only[iY,hf']
                 exact e
         | _=>trivial
theorem RO {fc call:bj} (hle:jV fc call) {ts:List AV} {h h':aw} {rc:RC} {dst:Option Tmp} {c:Call} {ty:TypeId} {pos:String} {after:Array Edge} {guard:Option (Nat×Bool)} {v:AV} (e:dm E fc ts h rc ⟨dst,.call c,ty,pos,after,guard⟩= .panic v h'):
 dm E call ts h rc ⟨dst,.call c,ty,pos,after,guard⟩= .panic v h':=by
 obtain ⟨dh,args,aT⟩:=c
 cases dh with
 | builtin b=>
   cases b<;>simp only[dm] at e<;>(try (simp at e;done))<;>(split at e<;>(try (simp at e;done))<;>(try (split at e<;>simp at e)))
 | value f=>
   simp only[dm] at e ⊢
   split at e
   · split at e
     · split at e<;>simp at e
     · split at e
       · simp at e
       · rename_i hc
         simp at e;obtain ⟨rfl,rfl⟩:=e
         simp only[(hle _ _ _).2 _ _ hc]
       · simp at e
   · simp at e
 | invoke x name=>
   simp only[dm] at e ⊢
   split at e
   · split at e
     · split at e
       · simp at e
       · rename_i hc
         simp at e;obtain ⟨rfl,rfl⟩:=e
         simp only[(hle _ _ _).2 _ _ hc]
       · simp at e
     · simp at e
   · simp at e
theorem pc.snoc {ops:Array Oper} {pl:lL} {c:List OB} {t:List Step} (h:pc E ops pl c t) {x:Step} (hs:∀h,iY E ops x h=true) (hm:madeOf x.kind=none):pc E ops pl c (t++[x]):=by
 induction h with
 | nil=>exact .skip hs hm .nil
 | skip a b _ ih=>exact .skip a b ih
 | Wr a b d e _ ih=>exact .Wr a b d e ih
theorem Ws (hn:n≤F.N) {fc call:bj} (hle:jV fc call) (ops:Array Oper) (pl:lL) (r:F.T) (h:aw) (y:Y):
 rH E F n (V3 E F n ops pl fc r h y) (match cR E call ops pl.order 0 ⟨eW F n r,h,y.ds,y.rc⟩ with
  | .ok tr hs s'=>if qq E ops pl tr hs then .ok .normal s' else .fail "still" (ops[0]?)
  | .fail why o=>match A3 E call ops ⟨eW F n r,h,y.ds,y.rc⟩ pl with
    | some (v,s2)=> .ok (.panic v) s2
    | none=> .fail why o):=by
 unfold V3
 split
 · trivial
 rename_i i front VG
 split
 · rename_i tr hs r1 h1 y1 dst c ty pos after guard hd ho
   split
   · rename_i v h' Fu QN
     split
     · rename_i hl
       have hk:=BH (E:=E) hn hle ops pl front.reverse 0 r h y
       rw[hd] at hk
       obtain ⟨JY,e1,e2⟩:=hk
       have QJ:pl.order=front.reverse++[i]:=by
        have:=congrArg List.reverse VG
        simpa using this
       have ac9:=RO hle QN
       have Og:=Fu
       simp only[Bool.and_eq_true] at Og
       obtain ⟨why,q,e3⟩:=yA ho Og.1.1 front.reverse 0 _ e1 Og.1.2 ac9
       rw[QJ,e3]
       have QO:A3 E call ops ⟨eW F n r,h,y.ds,y.rc⟩ pl=some (v,⟨eW F n r1,h',y1.ds,y1.rc⟩):=by
        unfold A3
        rw[VG]
        simp only[e1,ho,Fu,if_true,ac9]
        rw[if_pos (BG (e2.snoc (fun _=>rfl) rfl) hl)]
       simp only[QO]
       exact ⟨by simp,rfl⟩
     · trivial
   · trivial
 · trivial
theorem RP (hn:n≤F.N) {fc call:bj} (hle:jV fc call) (ops:Array Oper) (r:F.T) (h:aw) (y:Y):
 rH E F n ((MX E F n ops).run fc r h y) (vY E call ops ⟨eW F n r,h,y.ds,y.rc⟩):=by
 unfold MX vY
 rw[Rb]
 cases rU E ops with
 | none=>trivial
 | some pl=>
   show rH E F n (DO.rec (motive:=fun _=>FO F.T) (fun tr hs r' h' y'=>bc (qJ tr hs) (.Ig r' h' y') .bad) (V3 E F n ops pl fc r h y) ((iU E F n ops pl pl.order 0).run fc r h y)) _
   have:=BH (E:=E) hn hle ops pl pl.order 0 r h y
   cases hd:(iU E F n ops pl pl.order 0).run fc r h y with
   | bad=>exact Ws hn hle ops pl r h y
   | ok tr hs r' h' y'=>
     rw[hd] at this
     obtain ⟨JY,h1,h2⟩:=this
     show rH E F n (bc (qJ tr hs) (.Ig r' h' y') .bad) _
     cases hl:qJ tr hs with
     | false=>trivial
     | true=>
       simp only[h1]
       rw[if_pos (BG h2 hl)]
       rfl
end Go.Ab.Fa
end
section
namespace Go.Ab.Fa
variable {E:Env} {F:RF} {n:Nat}
theorem Iy {fc call:bj} (hle:jV fc call) {f:Operand} {ps:Array Tmp} {as_ bd:Code} {s:St} {e:h_} {s':St} (h:kP E fc f ps as_ bd s= .ok e s'):kP E call f ps as_ bd s= .ok e s':=by
 unfold kP at h ⊢
 split at h
 case h_2=>cases h
 rename_i g first captured hv
 split at h
 case h_2=>cases h
 rename_i dn h1 ZC ho
 split at h
 case h_2=>cases h
 rename_i h2 hn
 cases hc:fc (.fn g) (first++[.cO h1.nx]++captured) h2 with
 | ret v h3=>rw[hc] at h;rw[(hle _ _ _).1 _ _ hc];exact h
 | panic v h3=>rw[hc] at h;rw[(hle _ _ _).2 _ _ hc];exact h
 | fail why q=>rw[hc] at h;cases h
theorem OM {call:bj} {f:Operand} {ps:Array Tmp} {as_ bd:Code} {s:St} {e:h_} {s':St} (h:kP E call f ps as_ bd s= .ok e s'):s'.ts=s.ts:=by
 unfold kP at h
 split at h
 case h_2=>cases h
 split at h
 case h_2=>cases h
 split at h
 case h_2=>cases h
 split at h
 · split at h
   · cases h
   · split at h
     · simp only[Out.ok.injEq] at h;rw[←h.2]
     · cases h
   · cases h
 · simp only[Out.ok.injEq] at h;rw[←h.2]
 · cases h
theorem RQ {o:FO F.T} {out:Out} (h:rH E F n o out) {k:F.T→aw→Y→FO F.T} {g:St→Out} (hk:∀r h y,rH E F n (k r h y) (g ⟨eW F n r,h,y.ds,y.rc⟩)):
 rH E F n (fo k .jmp .bad o) (match (generalizing:=false) out with | .ok .normal s'=>g s' | r=>r):=by
 cases o with
 | Ig r h' y=>rw[show out=_ from h];exact hk r h' y
 | jmp e r h' y=>
   obtain ⟨h1,h2⟩:=h
   rw[h2]
   cases e with
   | normal=>exact absurd rfl h1
   | _=>exact ⟨by simp,rfl⟩
 | bad=>trivial
theorem kU (hn:n≤F.N) {fc call:bj} (hle:jV fc call):∀(c:Code) (m:Nat) (r:F.T) (h:aw) (y:Y),
 rH E F n ((mw E F n c).run m fc r h y) (exec E call m c ⟨eW F n r,h,y.ds,y.rc⟩)
 | .skip,m,r,h,y=>by cases m with
   | zero=>trivial
   | succ m=>exact rfl
 | .label _,m,r,h,y=>by cases m with
   | zero=>trivial
   | succ m=>exact rfl
 | .ret,m,r,h,y=>by cases m with
   | zero=>trivial
   | succ m=>exact ⟨by simp,rfl⟩
 | .exit id,m,r,h,y=>by cases m with
   | zero=>trivial
   | succ m=>exact ⟨by simp,rfl⟩
 | .region _ ops draw,m,r,h,y=>by
   cases m with
   | zero=>cases draw<;>trivial
   | succ m=>cases draw with
     | true=>exact RP hn hle ops r h y
     | false=>exact BF hn hle ops ops.toList r h y
 | .seq a b,m,r,h,y=>by cases m with
   | zero=>trivial
   | succ m=>
     have h1:=kU hn hle a m r h y
     have h2:=kU hn hle b m
     exact RQ h1 (g:=fun s'=>exec E call m b s') h2
 | .cond x a b,m,r,h,y=>by
   have ha:=kU hn hle a
   have hb:=kU hn hle b
   show rH E F n (C.run (wO E F n x (fun g=>⟨fun m call r h y=>nS .bad (fun i=>ja (fun t=>bc t ((mw E F n a).run i call r h y) ((mw E F n b).run i call r h y)) .bad (g r)) m⟩) ⟨fun _ _ _ _ _=> .bad⟩) m fc r h y) _
   rcases bY E F n x (fun g=>(⟨fun m call r h y=>nS .bad (fun i=>ja (fun t=>bc t ((mw E F n a).run i call r h y) ((mw E F n b).run i call r h y)) .bad (g r)) m⟩:C F.T)) ⟨fun _ _ _ _ _=> .bad⟩ with hw | ⟨g,hw,hg⟩<;>rw[hw]
   · trivial
   cases m with
   | zero=>trivial
   | succ m=>
     show rH E F n (ja (fun t=>bc t ((mw E F n a).run m fc r h y) ((mw E F n b).run m fc r h y)) .bad (g r)) _
     rw[exec]
     simp only[hg]
     cases g r with
     | bool t=>cases t with
       | true=>exact ha m r h y
       | false=>exact hb m r h y
     | _=>trivial
 | .block id b,m,r,h,y=>by cases m with
   | zero=>trivial
   | succ m=>
     have hb:=kU hn hle b m r h y
     show rH E F n (fo .Ig (fun e r' h' y'=>Rm (fun j=>bc (Nat.beq j id) (.Ig r' h' y') (.jmp e r' h' y')) (.jmp e r' h' y') e) .bad ((mw E F n b).run m fc r h y)) _
     rw[exec]
     cases hr:(mw E F n b).run m fc r h y with
     | bad=>trivial
     | Ig r' h' y'=>
       rw[hr] at hb
       have hb:exec E call m b _= .ok .normal ⟨eW F n r',h',y'.ds,y'.rc⟩:=hb
       rw[hb];exact rfl
     | jmp e r' h' y'=>
       rw[hr] at hb
       obtain ⟨h1,h2⟩:=hb
       rw[h2]
       cases e with
       | normal=>exact absurd rfl h1
       | exit j=>
         show rH E F n (bc (Nat.beq j id) (.Ig r' h' y') (.jmp (.exit j) r' h' y')) (if j=id then _ else _)
         cases hj:Nat.beq j id with
         | true=>rw[if_pos (lN hj)];exact rfl
         | false=>rw[if_neg (by intro e;rw[e,Nat.beq_refl] at hj;cases hj)];exact ⟨by simp,rfl⟩
       | ret=>exact ⟨by simp,rfl⟩
       | panic v=>exact ⟨by simp,rfl⟩
 | .loop b,m,r,h,y=>by
   have hb:=kU hn hle b
   show rH E F n (Ro (mw E F n b) m fc r h y) _
   induction m generalizing r h y with
   | zero=>trivial
   | succ m ih=>
     show rH E F n (fo (fun r' h' y'=>Ro (mw E F n b) m fc r' h' y') .jmp .bad ((mw E F n b).run m fc r h y)) _
     exact RQ (hb m r h y) (g:=fun s'=>exec E call m (.loop b) s') ih
 | .rangeFunc f ps as_ bd,m,r,h,y=>by
   show rH E F n ((V4 (F0 E F n f ps as_ bd)).run m fc r h y) _
   cases m with
   | zero=>trivial
   | succ m=>
     show rH E F n ((F0 E F n f ps as_ bd).run fc r h y) (kP E call f ps as_ bd ⟨eW F n r,h,y.ds,y.rc⟩)
     unfold F0
     rcases bY E F n f (fun _=>(⟨fun call r h y=>Ym r (kP E call f ps as_ bd ⟨eW F n r,h,y.ds,y.rc⟩)⟩:I F.T)) ⟨fun _ _ _ _=> .bad⟩ with hw | ⟨g,hw,_⟩<;>rw[hw]
     · trivial
     simp only
     cases hr:kP E fc f ps as_ bd ⟨eW F n r,h,y.ds,y.rc⟩ with
     | fail _ _=>trivial
     | ok e s=>
       rw[Iy hle hr]
       have ht:=OM hr
       obtain ⟨ts,hh,ds,rc⟩:=s
       simp only at ht
       subst ht
       cases e with
       | normal=>exact rfl
       | _=>exact ⟨by simp,rfl⟩
 | .scope b,m,r,h,y=>by cases m with
   | zero=>trivial
   | succ m=>exact kU hn hle b m r h y
 | .goto _,m,r,h,y=>trivial
 | .refuse _,m,r,h,y=>trivial
theorem wI:∀(l:List ResultVar) (r:F.T) (h:aw) (vs:List AV),(yL E F n l).f r h=some vs→jw E h (eW F n r) l=some vs
 | [],r,h,vs,e=>e
 | .tmp t::rest,r,h,vs,e=>by
   rw[yL] at e
   obtain ⟨g,h1,h2⟩:=F3 F n t (fun g=>wW (yL E F n rest) fun k=>(⟨fun r h=>ob none (fun vs=>some (g r::vs)) (k r h)⟩:W (F.T→aw→Option (List AV))))
   rw[h1] at e
   obtain ⟨qx,h3,h4⟩:=gz (show ob none (fun vs=>some (g r::vs)) ((yL E F n rest).f r h)=some vs from e)
   rw[jw]
   simp only[h2,wI rest r h qx h3]
   exact h4
 | .cell a t::rest,r,h,vs,e=>by
   rw[yL] at e
   obtain ⟨g,h1,h2⟩:=F3 F n a (fun g=>wW (yL E F n rest) fun k=>(⟨fun r h=>ob none (fun v=>ob none (fun vs=>some (v::vs)) (k r h)) (bE E h t (g r))⟩:W (F.T→aw→Option (List AV))))
   rw[h1] at e
   obtain ⟨v,h3,h4⟩:=gz (show ob none (fun v=>ob none (fun vs=>some (v::vs)) ((yL E F n rest).f r h)) (bE E h t (g r))=some vs from e)
   obtain ⟨qx,h5,h6⟩:=gz h4
   rw[jw]
   simp only[h2,h3,wI rest r h qx h5]
   exact h6
def BOk (E:Env) (rs:List ResultVar) (b:BO) (out:Out):Prop:=match b with
 | .fin res h y=>∃e ts,(e= .normal∨e= .ret)∧out= .ok e ⟨ts,h,y.ds,y.rc⟩∧∀h' vs,res h'=some vs→jw E h' ts rs=some vs
 | .pan v res h y=>∃ts,out= .ok (.panic v) ⟨ts,h,y.ds,y.rc⟩∧∀h' vs,res h'=some vs→jw E h' ts rs=some vs
 | .bad=>True
theorem Iz {fc call:bj} (hle:jV fc call) (F:RF) (fn:Func) (hn:fn.ntmps≤F.N) (b:Code) (fuel:Nat) (args:List AV) (h:aw) (rc:RC):
 BOk E fn.results.toList ((Rp E F fn.ntmps fn b).run fuel fc args h rc) (mo E call fuel fn b args h rc):=by
 show BOk E _ (bc (Nat.ble (iE args) fn.ntmps)
  (fo (fun r h' y=> .fin ((yL E F fn.ntmps fn.results.toList).f r) h' y) (fun e r h' y=>h_.rec (motive:=fun _=>BO) .bad (fun _=> .bad) (.fin ((yL E F fn.ntmps fn.results.toList).f r) h' y) (fun v=> .pan v ((yL E F fn.ntmps fn.results.toList).f r) h' y) e) .bad
   ((mw E F fn.ntmps b).run fuel fc (P_ F args F.z 0) h ⟨[],rc⟩)) .bad) _
 cases hl:Nat.ble (iE args) fn.ntmps with
 | false=>trivial
 | true=>
   have hl:=ft hl
   rw[fD] at hl
   have:=kU (E:=E) hn hle b fuel (P_ F args F.z 0) h ⟨[],rc⟩
   rw[MK F fn.ntmps hn args hl] at this
   rw[iV]
   unfold mo
   cases hr:(mw E F fn.ntmps b).run fuel fc (P_ F args F.z 0) h ⟨[],rc⟩ with
   | bad=>trivial
   | Ig r h' y=>
     rw[hr] at this
     exact ⟨.normal,_,.inl rfl,this,fun MV vs e=>wI _ r MV vs e⟩
   | jmp e r h' y=>
     rw[hr] at this
     obtain ⟨h1,h2⟩:=this
     cases e with
     | normal=>exact absurd rfl h1
     | exit _=>trivial
     | ret=>exact ⟨.ret,_,.inr rfl,h2,fun MV vs e=>wI _ r MV vs e⟩
     | panic v=>exact ⟨_,h2,fun MV vs e=>wI _ r MV vs e⟩
theorem IA {fc call:bj} (hle:jV fc call) (f:FuncId) (fuel:Nat) (args:List AV) (h:aw) (rc:RC):
 (zE E f).run fuel fc args h rc= .bad∨∃fn b,E.P.funcs[f]? =some fn∧fn.body=some b∧BOk E fn.results.toList ((zE E f).run fuel fc args h rc) (mo E call fuel fn b args h rc):=by
 unfold zE
 rw[VW]
 cases hf:E.P.funcs[f]? with
 | none=>exact .inl rfl
 | some fn=>
   simp only
   cases hb:fn.body with
   | none=>exact .inl rfl
   | some b=>
     refine .inr ⟨fn,b,rfl,hb,?_⟩
     simp only
     cases h1:Nat.ble fn.ntmps 64 with
     | true=>exact Iz hle rf2 fn (ft h1) b fuel args h rc
     | false=>cases h2:Nat.ble fn.ntmps 512 with
       | true=>exact Iz hle rf3 fn (ft h2) b fuel args h rc
       | false=>trivial
theorem sy {fc call:bj} (hle:jV fc call) {fuel:Nat} {c:Code} {s:St} {e:h_} {s':St} (h:MZ E fc fuel c s= .ok e s'):exec E call fuel c s= .ok e s':=by
 have key:∀F:RF,s.ts.length≤F.N→MY E F fc fuel c s= .ok e s'→exec E call fuel c s= .ok e s':=by
  intro F hn hx
  have:=kU (E:=E) hn hle c fuel (P_ F s.ts F.z 0) s.h ⟨s.ds,s.rc⟩
  rw[MK F s.ts.length hn s.ts (Nat.le_refl _),Nat.sub_self,List.replicate_zero,List.append_nil] at this
  unfold MY at hx
  cases hr:(mw E F s.ts.length c).run fuel fc (P_ F s.ts F.z 0) s.h ⟨s.ds,s.rc⟩ with
  | bad=>rw[hr] at hx;cases hx
  | Ig r h' y=>rw[hr] at hx this;rw[show exec E call fuel c s=_ from this];exact hx
  | jmp e' r h' y=>rw[hr] at hx this;rw[show exec E call fuel c s=_ from this.2];exact hx
 unfold MZ at h
 cases h1:Nat.ble s.ts.length 64 with
 | true=>rw[h1] at h;exact key rf2 (ft h1) h
 | false=>cases h2:Nat.ble s.ts.length 512 with
   | true=>rw[h1,h2] at h;exact key rf3 (ft h2) h
   | false=>rw[h1,h2] at h;cases h
noncomputable def F_ (E:Env) (call:bj) (fuel:Nat) (g:FuncId) (as_:List AV) (h:aw) (rc:RC):Option (aw×RC):=match E.P.funcs[g]? with
 | none=>none
 | some fg=>match fg.body with
   | none=>none
   | some bg=>match mo E call fuel fg bg as_ h rc with
     | .ok .normal s'=>if s'.ds.isEmpty&&(jw E s'.h s'.ts fg.results.toList).isSome then some (s'.h,s'.rc) else none
     | .ok .ret s'=>if s'.ds.isEmpty&&(jw E s'.h s'.ts fg.results.toList).isSome then some (s'.h,s'.rc) else none
     | _=>none
theorem RR {fc call:bj} (hle:jV fc call) {fuel:Nat} {g:FuncId} {as_:List AV} {h:aw} {rc:RC} {p:aw×RC} (e:g_ E fc fuel g as_ h rc=some p):F_ E call fuel g as_ h rc=some p:=by
 unfold g_ at e
 rcases IA (E:=E) hle g fuel as_ h rc with h1 | ⟨fn,b,h1,h2,h3⟩
 · rw[h1] at e;cases e
 · unfold F_
   rw[h1];simp only;rw[h2];simp only
   cases hr:(zE E g).run fuel fc as_ h rc with
   | bad=>rw[hr] at e;cases e
   | pan v res h' y=>rw[hr] at e;cases e
   | fin res h' y=>
     rw[hr] at e h3
     obtain ⟨x,ts,h4,h5,h6⟩:=h3
     obtain ⟨h7,e1⟩:=fq (show bc y.ds.isEmpty (ob none (fun _=>some (h',y.rc)) (res h')) none=some p from e)
     obtain ⟨vs,h8,e2⟩:=gz e1
     rw[h5]
     rcases h4 with rfl | rfl
     · simp only[h7,h6 h' vs h8,Option.isSome_some,Bool.and_self,if_true];exact e2
     · simp only[h7,h6 h' vs h8,Option.isSome_some,Bool.and_self,if_true];exact e2
theorem kV {f g:FuncId→List AV→aw→RC→Option (aw×RC)} (hfg:∀k as_ h rc p,f k as_ h rc=some p→g k as_ h rc=some p):∀(ds:List pw) (p:Option AV) (h:aw) {q:Option AV×aw},cK f ds p h=some q→cK g ds p h=some q
 | [],p,h,q,e=>by cases p<;>exact e
 | .Db r::ds,p,h,q,e=>by
   rw[cK] at e ⊢
   split at e
   · exact kV hfg ds p _ e
   · cases e
 | .call k as_::ds,none,h,q,e=>by
   rw[cK] at e ⊢
   cases hf:f k as_ h .no with
   | none=>rw[hf] at e;cases e
   | some p=>rw[hf] at e;rw[hfg _ _ _ _ _ hf];obtain ⟨h',VJ⟩:=p;exact kV hfg ds none h' e
 | .call k as_::ds,some v,h,q,e=>by
   rw[cK] at e ⊢
   cases hf:f k as_ h (.gV v) with
   | none=>rw[hf] at e;cases e
   | some p=>
     rw[hf] at e;rw[hfg _ _ _ _ _ hf];obtain ⟨h',VJ⟩:=p
     cases VJ with
     | gV w=>exact kV hfg ds _ h' e
     | done=>exact kV hfg ds _ h' e
     | _=>cases e
theorem ON {fc call:bj} (hle:jV fc call) (fuel:Nat) (l:Nat) (args:List AV) (h:aw):(∀v h',Bx E fc fuel l args h= .ret v h'→qt E call fuel l args h= .ret v h')∧∀v h',Bx E fc fuel l args h= .panic v h'→qt E call fuel l args h= .panic v h':=by
 have key:∀out:iQ,(∀why o,out≠ .fail why o)→Bx E fc fuel l args h=out→qt E call fuel l args h=out:=by
  intro out pN e
  unfold Bx at e
  unfold qt
  split at e
  case h_2=>exact absurd e.symm (pN _ _)
  rename_i st pd ts ps as_ bd dn hg
  rw[hg]
  simp only
  by_cases ha:args.length=ps.length
  · rw[if_pos ha] at e ⊢
    split at e
    · rename_i s1 h1
      rw[sy hle h1]
      simp only
      split at e
      · rename_i pd U0 Qi PU U1 U2 hg2
        rw[hg2]
        simp only
        split at e
        · rename_i s2 h2;rw[sy hle h2];exact e
        · rename_i s2 h2;rw[sy hle h2];exact e
        · rename_i id s2 h2;rw[sy hle h2];exact e
        · rename_i v s2 h2;rw[sy hle h2];exact e
        · exact absurd e.symm (pN _ _)
      · exact absurd e.symm (pN _ _)
    · exact absurd e.symm (pN _ _)
    · exact absurd e.symm (pN _ _)
  · rw[if_neg ha] at e;exact absurd e.symm (pN _ _)
 exact ⟨fun v h' e=>key _ (by simp) e,fun v h' e=>key _ (by simp) e⟩
noncomputable def RS (E:Env) (call:bj) (fuel:Nat) (fn:Func) (p:Option AV) (s:St):iQ:=match cK (F_ E call fuel) s.ds p s.h with
 | none=> .fail "unwind" none
 | some (some v,h')=> .panic v h'
 | some (none,h')=>match jw E h' s.ts fn.results.toList with
   | some vs=> .ret (fO vs) h'
   | none=> .fail "results" none
theorem KP (d fuel:Nat) {f:FuncId} {fn:Func} {b:Code} (hf:E.P.funcs[f]? =some fn) (hb:fn.body=some b) (args:List AV) (h:aw):
 f' E (d+1) fuel (.fn f) args h=(match mo E (f' E d fuel) fuel fn b args h .no with
  | .ok .normal s=>RS E (f' E d fuel) fuel fn none s
  | .ok .ret s=>RS E (f' E d fuel) fuel fn none s
  | .ok (.panic v) s=>RS E (f' E d fuel) fuel fn (some v) s
  | .ok (.exit _) _=> .fail "exit" none
  | .fail why o=> .fail (why++ " in " ++fn.name) o):=by
 rw[f']
 simp only[hf,hb]
 rfl
theorem M_ {fc call:bj} (hle:jV fc call) {fuel:Nat} {fn:Func} {p:Option AV} {res:aw→Option (List AV)} {ts:List AV} {h:aw} {y:Y} (Dk:∀h' vs,res h'=some vs→jw E h' ts fn.results.toList=some vs) {out:iQ} (ho:∀why o,out≠ .fail why o)
 (e:Il (p.elim (ob (.fail "results" none) (fun vs=>iQ.ret (fO vs) h) (res h)) (fun v=> .panic v h)) (Ik E fc fuel p res h y.ds) y.ds=out):RS E call fuel fn p ⟨ts,h,y.ds,y.rc⟩=out:=by
 unfold RS
 cases hd:y.ds with
 | nil=>
   rw[hd] at e
   cases p with
   | some v=>exact e
   | none=>
     have e:ob (.fail "results" none) (fun vs=>iQ.ret (fO vs) h) (res h)=out:=e
     cases hr:res h with
     | none=>rw[hr] at e;exact absurd e.symm (ho _ _)
     | some vs=>
       rw[hr] at e
       simp only[cK,Dk h vs hr]
       exact e
 | cons d ds=>
   rw[hd] at e
   have e:Ik E fc fuel p res h (d::ds)=out:=e
   unfold Ik at e
   cases hu:cK (g_ E fc fuel) (d::ds) p h with
   | none=>rw[hu] at e;exact absurd e.symm (ho _ _)
   | some q=>
     rw[hu] at e
     have:=kV (g:=F_ E call fuel) (fun k as_ h rc p e=>RR hle e) (d::ds) p h hu
     simp only[this]
     obtain ⟨q1,h'⟩:=q
     cases q1 with
     | some v=>exact e
     | none=>
       have e:ob (.fail "results" none) (fun vs=>iQ.ret (fO vs) h') (res h')=out:=e
       cases hr:res h' with
       | none=>rw[hr] at e;exact absurd e.symm (ho _ _)
       | some vs=>rw[hr] at e;simp only[Dk h' vs hr];exact e
theorem IB (fuel:Nat):∀d,jV (zF E d fuel) (f' E d fuel)
 | 0=>fun _ _ _=>⟨fun _ _ e=>(by cases e),fun _ _ e=>(by cases e)⟩
 | d+1=>by
   have ih:=IB fuel d
   intro g args h
   cases g with
   | uV l=>exact ON ih fuel l args h
   | fn f=>
     have key:∀out:iQ,(∀why o,out≠ .fail why o)→zF E (d+1) fuel (.fn f) args h=out→f' E (d+1) fuel (.fn f) args h=out:=by
      intro out ho e
      have e:bo (fun res h' y=>Il (ob (.fail "results" none) (fun vs=>iQ.ret (fO vs) h') (res h')) (Ik E (zF E d fuel) fuel none res h' y.ds) y.ds)
       (fun v res h' y=>Il (.panic v h') (Ik E (zF E d fuel) fuel (some v) res h' y.ds) y.ds) (.fail "body" none) ((zE E f).run fuel (zF E d fuel) args h .no)=out:=e
      rcases IA (E:=E) ih f fuel args h .no with h1 | ⟨fn,b,h1,h2,h3⟩
      · rw[h1] at e;exact absurd e.symm (ho _ _)
      · rw[KP d fuel h1 h2]
        cases hr:(zE E f).run fuel (zF E d fuel) args h .no with
        | bad=>rw[hr] at e;exact absurd e.symm (ho _ _)
        | fin res h' y=>
          rw[hr] at e h3
          obtain ⟨x,ts,h4,h5,h6⟩:=h3
          have:=M_ (E:=E) ih (fn:=fn) (p:=none) h6 ho e
          rw[h5]
          rcases h4 with rfl | rfl<;>exact this
        | pan v res h' y=>
          rw[hr] at e h3
          obtain ⟨ts,h5,h6⟩:=h3
          have:=M_ (E:=E) ih (fn:=fn) (p:=some v) h6 ho e
          rw[h5];exact this
     exact ⟨fun v h' e=>key _ (by simp) e,fun v h' e=>key _ (by simp) e⟩
theorem BI {d fuel:Nat} {f:FuncId} {args:List AV} {h h':aw} {v:AV} (e:zF E d fuel (.fn f) args h= .ret v h'):f' E d fuel (.fn f) args h= .ret v h':=
 (IB fuel d _ _ _).1 v h' e
end Go.Ab.Fa
end
section
namespace Go.Ab
structure aiz (P:Program) (f:FuncId) (e:Array Value→Sem Value):Prop where
 at':∃fn,P.funcs[f]? =some fn∧(fn.name== "runtime.NumGoroutine")=false∧fn.body.isNone=true∧Extern.findNext fn=none∧Extern.find fn=some e
section
open Fa
noncomputable def l3 {R:Type} (f:AV→AV→AV→R) (d:R) (l:List AV):R:=
 List.rec (motive:=fun _=>R) d (fun a tl _=>List.rec (motive:=fun _=>R) d (fun b tl _=>List.rec (motive:=fun _=>R) d (fun c tl _=>List.rec (motive:=fun _=>R) (f a b c) (fun _ _ _=>d) tl) tl) tl) l
noncomputable def l2 {R:Type} (f:AV→AV→R) (d:R) (l:List AV):R:=
 List.rec (motive:=fun _=>R) d (fun a tl _=>List.rec (motive:=fun _=>R) d (fun b tl _=>List.rec (motive:=fun _=>R) (f a b) (fun _ _ _=>d) tl) tl) l
noncomputable def n3 (f:Nat→Nat→Nat→Option AV):List AV→Option AV:=
 l3 (fun a b c=>oa (fun _ x=>oa (fun _ y=>oa (fun _ z=>ku (fun x=>ku (fun y=>ku (fun z=>f x y z) none z) none y) none x) none c) none b) none a) none
end
open Fa
end Go.Ab
end
section
namespace Go.Ab
open Go.Maps Go.WideElems Go.RowKit Go.Proofs
section
open Fa
noncomputable def l1 {R:Type} (f:AV→R) (d:R) (l:List AV):R:=List.rec (motive:=fun _=>R) d (fun a tl _=>List.rec (motive:=fun _=>R) (f a) (fun _ _ _=>d) tl) l
end
open Fa
theorem OK.later {E:Env} {φ:Ph} {h:aw} {w w':World} (ok:OK E φ h w) (b:Below w.heap.size w w'):OK E φ h w'∧Fr φ h w φ h w':=by
 have hblk:∀j p m,h.get j=some p→φ j=some m→m.dZ<w.heap.size:=fun j p m hj hm=>by
  have AO:=ok.live j p m hj hm
  rcases Nat.lt_or_ge m.dZ w.heap.size with a | a
  · exact a
  · exfalso
    rw[Array.getElem?_eq_none a] at AO
    exact AO.absurd
 refine ⟨⟨ok.Ao,ok.nx,ok.uW,fun i o l h1 h2=>?_,ok.inj⟩,⟨Ph.le_refl φ,fun _ _=>rfl,Nat.le_refl _,b.os,b.tape,b.output,b.size,fun c hc _=>b.block c hc,fun i o l h1 h2 h3=> .inr ⟨i,o,l,h1,h2,h3,rfl⟩⟩⟩
 rw[b.block _ (hblk i o l h1 h2)]
 exact ok.live i o l h1 h2
end Go.Ab
end
section
namespace Go.Ab
structure Wt where
 g:Nat
 k:IntKind
 ns:List Nat
 t:TypeId
def Wt.cells (x:Wt):List AV:=x.ns.map fun n=>AV.int x.k (Int.ofNat n)
noncomputable def kW (G:Nat):List Wt→aw
 | []=>⟨HT.nil,G,fun _=>none⟩
 | x::xs=>(kW G xs).put x.g (some (.cells x.cells x.t true))
theorem M' (i:Nat) (G:Nat):(aw.mk HT.nil G fun _=>none).get i=none:=by
 by_cases hi:i<262144
 · rw[aw.uX hi]
   rw[A6 hi,ym,A5]
   simp only[HT.nil,AK]
 · rw[aw.qu hi]
theorem yP (G:Nat):∀l,(kW G l).nx=G
 | []=>rfl
 | _::xs=>yP G xs
theorem qM {G:Nat}:∀{l:List Wt} {i:Nat} {o:aR},(kW G l).get i=some o→∃x∈l,x.g=i∧o= .cells x.cells x.t true
 | [],i,o,e=>by rw[kW,M'] at e;cases e
 | x::xs,i,o,e=>by
   rw[kW] at e
   by_cases h:x.g=i
   · subst h
     rw[aw.bS] at e
     exact ⟨x,by simp,rfl,(Option.some.inj e).symm⟩
   · rw[aw.bx h] at e
     obtain ⟨y,hy,h1,h2⟩:=qM e
     exact ⟨y,by simp [hy],h1,h2⟩
def adb (w:World) (x:Wt):Prop:=∃C e fz,w.heap[x.g]? =some (.cells C e fz)∧C.toList=x.ns.map fun n=>Value.int x.k (Int.ofNat n)
def Yp (G:Nat):Ph:=fun i=>if i<G then some ⟨i,0,0⟩ else none
theorem OK.begin {E:Env} {w:World} {l:List Wt} (hl:∀x∈l,x.g<E.G∧adb w x):OK E (Yp E.G) (kW E.G l) w:=by
 refine ⟨fun i l' h=>?_,?_,fun g hg=>?_,fun i o l' h1 h2=>?_,fun i j o p l' m _ _ h3 h4 _ h5=>?_⟩
 · unfold Yp at h;rw[yP];split at h
   · assumption
   · cases h
 · rw[yP];exact Nat.le_refl _
 · unfold Yp;rw[if_pos hg]
 · obtain ⟨x,hx,rfl,rfl⟩:=qM h1
   obtain ⟨hg,C,e,⟨lo,hi⟩,hw,hC⟩:=hl x hx
   unfold Yp at h2;rw[if_pos hg] at h2
   obtain rfl:=Option.some.inj h2
   refine ⟨C,e,lo,hi,hw,⟨?_,?_,(fun h=>by cases h),fun _ _ _=>rfl⟩,fun z=>by cases z⟩
   · have:C.size=x.ns.length:=by rw[←Array.length_toList,hC,List.length_map]
     simp [Wt.cells,fp,this]
   · intro k y hk
     simp only[Wt.cells,List.getElem?_map,Option.map_eq_some_iff] at hk
     obtain ⟨n,hn,rfl⟩:=hk
     refine ⟨.int x.k (Int.ofNat n),?_,.int _ _⟩
     rw[Nat.zero_add,←Array.getElem?_toList,hC,List.getElem?_map,hn];rfl
 · unfold Yp at h3 h4
   split at h3
   · split at h4
     · obtain rfl:=Option.some.inj h3
       obtain rfl:=Option.some.inj h4
       exact h5
     · cases h4
   · cases h3
noncomputable def wJ (o:iQ):Bool:=iQ.rec (motive:=fun _=>Bool) (fun v _=>Fa.ja (fun b=>b) false v) (fun _ _=>false) (fun _ _=>false) o
theorem zI {o:iQ} (h:wJ o=true):∃h',o= .ret (.bool true) h':=by
 cases o with
 | ret v h'=>
   cases v with
   | bool b=>exact ⟨h',by rw[show b=true from h]⟩
   | _=>cases h
 | panic v h'=>cases h
 | fail _ _=>cases h
end Go.Ab
end
section
namespace Go.Ab
variable {E:Env}
noncomputable def qN (E:Env) (call:bj) (fuel:Nat) (fn:Func) (p:Option AV) (s:St):iQ:=match cK (g_ E call fuel) s.ds p s.h with
 | none=> .fail "unwind" none
 | some (some v,h')=> .panic v h'
 | some (none,h')=>match jw E h' s.ts fn.results.toList with
   | some vs=> .ret (fO vs) h'
   | none=> .fail "results" none
noncomputable def wK (E:Env) (call:bj) (fuel:Nat) (f:FuncId) (args:List AV) (h:aw):iQ:=match E.P.funcs[f]? with
 | none=> .fail "no function" none
 | some fn=>match fn.body with
   | none=> .fail ("no body " ++fn.name) none
   | some b=>match mo E call fuel fn b args h .no with
     | .ok .normal s=>qN E call fuel fn none s
     | .ok .ret s=>qN E call fuel fn none s
     | .ok (.panic v) s=>qN E call fuel fn (some v) s
     | .ok (.exit _) _=> .fail "exit" none
     | .fail why o=> .fail (why++ " in " ++fn.name) o
theorem pf (hE:j5 E) (fuel:Nat) {call:bj} (ih:hF E call):(∀f args h v h',wK E call fuel f args h= .ret v h'→kD E f args h v h')∧(∀f args h v h',wK E call fuel f args h= .panic v h'→MC E f args h v h'):=by
 have key:∀(f:FuncId) (args:List AV) (h:aw) (out:iQ),wK E call fuel f args h=out→(∀why q,out≠ .fail why q)→
  ∃fn c e s p,E.P.funcs[f]? =some fn∧fn.body=some c∧mo E call fuel fn c args h .no= .ok e s∧
   ((p=none∧(e= .normal∨e= .ret))∨∃v,p=some v∧e= .panic v)∧
   ((∃v h',out= .panic v h'∧cK (g_ E call fuel) s.ds p s.h=some (some v,h'))∨
    ∃vs h',out= .ret (fO vs) h'∧cK (g_ E call fuel) s.ds p s.h=some (none,h')∧jw E h' s.ts fn.results.toList=some vs):=by
  intro f args h out e eu
  unfold wK at e
  split at e
  · exact absurd e.symm (eu _ _)
  rename_i fn hf
  split at e
  · exact absurd e.symm (eu _ _)
  rename_i c hb
  have fin:∀(p:Option AV) (s:St),qN E call fuel fn p s=out→
   ((∃v h',out= .panic v h'∧cK (g_ E call fuel) s.ds p s.h=some (some v,h'))∨
    ∃vs h',out= .ret (fO vs) h'∧cK (g_ E call fuel) s.ds p s.h=some (none,h')∧jw E h' s.ts fn.results.toList=some vs):=by
   intro p s hm
   unfold qN at hm
   split at hm
   · exact absurd hm.symm (eu _ _)
   · rename_i v h' hu;exact .inl ⟨v,h',hm.symm,hu⟩
   · rename_i h' hu
     split at hm
     · rename_i vs hv;exact .inr ⟨vs,h',hm.symm,hu,hv⟩
     · exact absurd hm.symm (eu _ _)
  split at e
  · rename_i s fQ;exact ⟨fn,c,_,s,none,hf,hb,fQ,.inl ⟨rfl,.inl rfl⟩,fin none s e⟩
  · rename_i s fQ;exact ⟨fn,c,_,s,none,hf,hb,fQ,.inl ⟨rfl,.inr rfl⟩,fin none s e⟩
  · rename_i v s fQ;exact ⟨fn,c,_,s,some v,hf,hb,fQ,.inr ⟨v,rfl,rfl⟩,fin (some v) s e⟩
  · exact absurd e.symm (eu _ _)
  · exact absurd e.symm (eu _ _)
 have run:∀(f:FuncId) (fn:Func) (c:Code) (args:List AV) (h:aw) (e:h_) (s:St) (p p':Option AV) (h':aw),E.P.funcs[f]? =some fn→fn.body=some c→mo E call fuel fn c args h .no= .ok e s→
  ((p=none∧(e= .normal∨e= .ret))∨∃v,p=some v∧e= .panic v)→cK (g_ E call fuel) s.ds p s.h=some (p',h')→
  ∀(φ:Ph) (w:World) (vs:List Value),OK E φ h w→LR φ args vs→∀cs,∃φ' w' m' tmps todo,OK E φ' h' w'∧Fr φ h w φ' h' w'∧LR φ' s.ts tmps.toList∧
   ((p'=none∧m'= .returning)∨∃v v',p'=some v∧VR φ' v v'∧m'= .panicking [{v:=v',recovered:=false}])∧
   Steps E.P (lone (Frame.enter E.P f vs.toArray .normal) cs w) (lone {(bare f .normal).atR {tmps,defers:=[]} todo with mode:=m'} cs w'):=by
  intro f fn c args h e s p p' h' hf hb fQ hp hu φ w vs ok hl cs
  obtain ⟨φ1,w1,a1,e1,x1,x2,x3,x4,x5,x6⟩:=(sh hE ih hf hb fQ ok hl (kind:= .normal) (K:=fun _=>cs) ⟨rfl,fun fr hk=>by simp [tryRecover,show fr.kind= .normal from hk]⟩).is
  have H4:cur (fun _=>cs) s.rc=cs:=by cases s.rc<;>rfl
  have Q0:cur (fun _=>cs) RC.no=cs:=rfl
  rw[H4] at x6
  rw[Q0] at x6
  have hm:∃todo m,((p=none∧m= .returning)∨∃v v',p=some v∧VR φ1 v v'∧m= .panicking [{v:=v',recovered:=false}])∧
   Steps E.P (lone (Frame.enter E.P f vs.toArray .normal) cs w) (lone {(bare f .normal).atR a1 todo with mode:=m} cs w1):=by
   rcases hp with ⟨rfl,rfl | rfl⟩ | ⟨v,rfl,rfl⟩
   · cases x1;exact ⟨[],.returning,.inl ⟨rfl,rfl⟩,Steps.trans x6 (.one (stepR_end rfl))⟩
   · cases x1;obtain ⟨todo,hs⟩:=x6;exact ⟨_,.returning,.inl ⟨rfl,rfl⟩,Steps.trans hs (.one (stepR_ret rfl))⟩
   · cases x1 with
     | panic _ v' hv=>obtain ⟨todo,hs⟩:=x6;exact ⟨todo,_,.inr ⟨v,v',rfl,hv,rfl⟩,hs⟩
  obtain ⟨todo,m,hmp,rO⟩:=hm
  obtain ⟨φ2,w2,m2,Bm,f2,QZ,hs2⟩:=jA hE ih s.ds hu (fr:={(bare f .normal).atR a1 todo with mode:=m}) (cs:=cs) x3 x2.ds (by
   rcases hmp with ⟨e,em⟩ | ⟨v,v',e,hv,em⟩
   · exact .inl ⟨e,em⟩
   · exact .inr ⟨v,v',e,hv,em⟩)
  exact ⟨φ2,w2,m2,a1.tmps,todo,Bm,x4.trans f2,x2.ts.mono f2.ext,QZ,Steps.trans rO hs2⟩
 refine ⟨fun f args h v h' e=>?_,fun f args h v h' e=>?_⟩
 · obtain ⟨fn,c,e1,s,p,hf,hb,fQ,hp,pN⟩:=key f args h _ e (by simp)
   rcases pN with ⟨v1,h1,he,_⟩ | ⟨vs1,h1,he,hu,Dk⟩
   · simp at he
   · simp at he;obtain ⟨rfl,rfl⟩:=he
     intro φ w vs ok hl
     refine ⟨enters hE hf hb _ w,fun cs=>?_⟩
     obtain ⟨φ',w',m',tmps,todo,rz,fr,ht,hm,hs⟩:=run f fn c args h e1 s p none h' hf hb fQ hp hu φ w vs ok hl cs
     obtain ⟨v',hv,fJ⟩:=sf rz ht Dk
     rcases hm with ⟨_,rfl⟩ | ⟨v,v'',e,_⟩
     · exact ⟨φ',w',v',_,hv,rz,fr,hs,rfl,rfl,rfl,rfl,fn,hf,fJ⟩
     · simp at e
 · obtain ⟨fn,c,e1,s,p,hf,hb,fQ,hp,pN⟩:=key f args h _ e (by simp)
   rcases pN with ⟨v1,h1,he,hu⟩ | ⟨vs1,h1,he,_⟩
   · simp at he;obtain ⟨rfl,rfl⟩:=he
     intro φ w vs ok hl
     refine ⟨enters hE hf hb _ w,fun cs=>?_⟩
     obtain ⟨φ',w',m',tmps,todo,rz,fr,ht,hm,hs⟩:=run f fn c args h e1 s p (some v) h' hf hb fQ hp hu φ w vs ok hl cs
     rcases hm with ⟨e,_⟩ | ⟨v2,v',e,hv,rfl⟩
     · simp at e
     · simp at e;subst e
       exact ⟨φ',w',v',_,hv,rz,fr,hs,rfl,rfl,rfl,fn,hf⟩
   · simp at he
namespace Fa
abbrev F':=FuncId→List AV→aw→Option (AV×aw)
def Ga (E:Env) (M:F'):Prop:=∀f args h v h',M f args h=some (v,h')→kD E f args h v h'
noncomputable def IC (nx:Nat) (l:List (Nat×aR)):aw:=List.rec (motive:=fun _=>aw) ⟨HT.nil,nx,fun _=>none⟩ (fun x _ h=>h.put x.1 (some x.2)) l
theorem D8 {nx:Nat}:∀{l:List (Nat×aR)} {i:Nat} {o:aR},(IC nx l).get i=some o→(i,o)∈l
 | [],i,o,e=>by
   have e:(aw.mk HT.nil nx fun _=>none).get i=some o:=e
   by_cases hi:i<262144
   · rw[aw.uX hi] at e
     have e:(hp i).get HT.nil=some o:=e
     rw[A6 hi,ym,A5] at e
     simp only[HT.nil,AK] at e
     cases e
   · rw[aw.qu hi] at e;cases e
 | x::xs,i,o,e=>by
   have e:((IC nx xs).put x.1 (some x.2)).get i=some o:=e
   by_cases h:x.1=i
   · subst h
     rw[aw.bS] at e
     cases e;simp
   · rw[aw.bx h] at e
     exact List.mem_cons_of_mem _ (D8 e)
structure Ent where
 f:FuncId
 args:List AV
 nx:Nat
 K:List (Nat×aR)
 v:AV
 nx':Nat
 K':List (Nat×aR)
end Fa
end Go.Ab
end
section
namespace Go.Ab
variable {E:Env}
theorem LR.wM {φ φ':Ph} {xs:List AV} {ys zs:List Value} (h:LR φ xs ys) (h':LR φ' xs zs) (ih:∀(i:Nat) (x:AV) (y z:Value),xs[i]? =some x→ys[i]? =some y→zs[i]? =some z→VR φ x z):LR φ xs zs:=by
 refine ⟨h'.1,fun i x z hx hz=>?_⟩
 have hi:i<xs.length:=(List.getElem?_eq_some_iff.1 hx).1
 have:i<ys.length:=by rw[←h.1];exact hi
 exact ih i x ys[i] z hx (by simp [this]) hz
theorem VR.back {φ φ':Ph} (hle:φ.le φ') {x:AV} {y:Value} (h:VR φ x y):∀{z:Value},VR φ' x z→VR φ x z:=by
 induction h with
 | bool b=>intro z h;cases h;exact .bool b
 | int k n=>intro z h;cases h;exact .int k n
 | str s=>
   intro z h
   generalize he:AV.str s.data.toList=q at h
   cases h with
   | str s'=>exact .str s'
   | _=>cases he
 | fN=>intro z h;cases h;exact .fN
 | ptr o h=>intro z h';cases h' with | ptr _ h'=>rw[hle _ _ h] at h';cases h';exact .ptr o h
 | aN=>intro z h;cases h;exact .aN
 | slice o len cap op h=>intro z h';cases h' with | slice _ _ _ _ h'=>rw[hle _ _ h] at h';cases h';exact .slice o len cap op h
 | dQ a cap=>intro z h;cases h;exact .dQ _ _
 | dP=>intro z h;cases h;exact .dP
 | map h=>intro z h';cases h' with | map h'=>rw[hle _ _ h] at h';cases h';exact .map h
 | func f a b a' b' la lb ha hb iha ihb=>
   intro z h
   obtain ⟨c,d,rfl,hc,hd⟩:=VR.v7 h
   have h1:LR φ a c.toList:=LR.wM (ys:=a'.toList) ⟨by simpa using la,fun i x y p q=>ha i x y p (by simpa using q)⟩ hc fun i x y z p q r=>iha i x y p (by simpa using q) (hc.2 i x z p r)
   have h2:LR φ b d.toList:=LR.wM (ys:=b'.toList) ⟨by simpa using lb,fun i x y p q=>hb i x y p (by simpa using q)⟩ hd fun i x y z p q r=>ihb i x y p (by simpa using q) (hd.2 i x z p r)
   have:=VR.Qj f h1 h2
   simpa using this
 | nilFunc=>intro z h;cases h;exact .nilFunc
 | yield h=>intro z h';cases h' with | yield h'=>rw[hle _ _ h] at h';cases h';exact .yield h
 | iface t v v' h ih=>intro z h';cases h' with | iface _ _ _ h'=>exact .iface t v _ (ih h')
 | nilIface=>intro z h;cases h;exact .nilIface
 | agg cs hZ hl h ih=>
   intro z h'
   obtain ⟨d,rfl,hd⟩:=VR.jy h'
   have h1:LR φ cs d.toList:=LR.wM (ys:=hZ.toList) ⟨by simpa using hl,fun i x y p q=>h i x y p (by simpa using q)⟩ hd fun i x y z p q r=>ih i x y p (by simpa using q) (hd.2 i x z p r)
   have:=VR.Od h1
   simpa using this
 | any v h=>intro z h';cases h' with | any _ h'=>exact .any _ h'
 | tuple cs hZ hl h ih=>
   intro z h'
   obtain ⟨d,rfl,hd⟩:=VR.DK h'
   have h1:LR φ cs d.toList:=LR.wM (ys:=hZ.toList) ⟨by simpa using hl,fun i x y p q=>h i x y p (by simpa using q)⟩ hd fun i x y z p q r=>ih i x y p (by simpa using q) (hd.2 i x z p r)
   have:=VR.tuple' h1
   simpa using this
theorem LR.back {φ φ':Ph} (hle:φ.le φ') {xs:List AV} {ys zs:List Value} (h:LR φ xs ys) (h':LR φ' xs zs):LR φ xs zs:=
 LR.wM h h' fun i x y z p q r=>(h.2 i x y p q).back hle (h'.2 i x z p r)
theorem OR.back {φ φ':Ph} (hle:φ.le φ') {o:aR} {l:Loc} {x z:Option Obj} (h:OR E φ o l x) (h':OR E φ' o l z):OR E φ o l z:=by
 cases o with
 | cells cs e ro=>
   obtain ⟨C,e1,lo,hi,_,hc⟩:=h
   obtain ⟨D,e2,Kb,Fl,hz,hd⟩:=h'
   refine ⟨D,e2,Kb,Fl,hz,⟨hd.size,fun k x hk=>?_,hd.free,hd.zero⟩,hd.shape⟩
   obtain ⟨y,_,hy⟩:=hc.val k x hk
   obtain ⟨y',h1,QC⟩:=hd.val k x hk
   exact ⟨y',h1,hy.back hle QC⟩
 | map es clock=>
   obtain ⟨_,es1,_,hl,hv⟩:=h
   obtain ⟨h0,es2,hz,U8,hv'⟩:=h'
   refine ⟨h0,es2,hz,U8,fun i x y hx hy=>?_⟩
   have hi:i<es.length:=(List.getElem?_eq_some_iff.1 hx).1
   have:i<es1.toList.length:=by rw[←hl];exact hi
   have a:=hv i x _ hx (List.getElem?_eq_getElem this)
   have b:=hv' i x y hx hy
   exact ⟨a.key.back hle b.key,a.val.back hle b.val,b.born⟩
 | uw s pos=>exact h'
 | A2 m since seen qo=>
   cases m with
   | none=>exact h'
   | some m=>
     obtain ⟨_,lm,hm,_⟩:=h
     obtain ⟨h0,lm',U',hz⟩:=h'
     rw[hle _ _ hm] at U';cases U'
     exact ⟨h0,lm,hm,hz⟩
 | loop st pd ts ps as_ bd dn=>
   obtain ⟨_,r,_,hr⟩:=h
   obtain ⟨h0,r',hz,Hv⟩:=h'
   obtain ⟨ld,hd,_⟩:=hr.defers
   obtain ⟨ld',JV,JU⟩:=Hv.defers
   rw[hle _ _ hd] at JV;cases JV
   exact ⟨h0,r',hz,Hv.state,Hv.pending,hr.tmps.back hle Hv.tmps,Hv.params,Hv.assign,Hv.body,⟨ld,hd,JU⟩,Hv.fn⟩
 | uT=>exact h'
def Has (h h':aw):Prop:=∀i o,h.get i=some o→h'.get i=some o
theorem Has.refl (h:aw):Has h h:=fun _ _ e=>e
theorem Has.trans {a b c:aw} (x:Has a b) (y:Has b c):Has a c:=fun i o e=>y i o (x i o e)
theorem OK.forget {φ φ':Ph} {h h':aw} {w w':World} (ok:OK E φ h w) (hle:φ.le φ') (rz:OK E φ' h' w') (hs:Has h h'):OK E φ h w' where
 Ao:=ok.Ao
 nx:=ok.nx
 uW:=ok.uW
 live i o l a b:=(ok.live i o l a b).back hle (rz.live i o l (hs i o a) (hle _ _ b))
 inj:=ok.inj
theorem Fr.forget {φ φ':Ph} {h h':aw} {w w':World} (f:Fr φ h w φ' h' w'):Fr φ h w φ h w' where
 ext:=Ph.le_refl φ
 old _ _:=rfl
 nx:=Nat.le_refl _
 os:=f.os
 tape:=f.tape
 output:=f.output
 size:=f.size
 Ap:=f.Ap
 own i o l a b c:= .inr ⟨i,o,l,a,b,c,rfl⟩
def AV.plain:Nat→AV→Bool
 | 0,_=>false
 | n+1,x=>match x with
   | .bool _ | .int .. | .str _ | .fN | .aN | .dP | .nilFunc | .nilIface=>true
   | .iface _ v=>AV.plain n v
   | .agg cs=>cs.all (AV.plain n)
   | .tuple cs=>cs.all (AV.plain n)
   | _=>false
theorem VR.plain {φ φ':Ph}:∀(n:Nat) {x:AV} (_:AV.plain n x=true) {y:Value},VR φ' x y→VR φ x y
 | 0,_,h,_,_=>by cases h
 | n+1,x,h,y,hv=>by
   have ih:= @VR.plain φ φ' n
   cases hv with
   | bool b=>exact .bool b
   | int k m=>exact .int k m
   | str s=>exact .str s
   | fN=>exact .fN
   | aN=>exact .aN
   | dP=>exact .dP
   | nilFunc=>exact .nilFunc
   | nilIface=>exact .nilIface
   | iface t v v' h'=>exact .iface t v v' (ih (by simpa [AV.plain] using h) h')
   | agg cs hZ hl hc=>
     refine .agg cs hZ hl fun i x y a b=>ih ?_ (hc i x y a b)
     simp only[AV.plain,List.all_eq_true] at h
     exact h x (List.mem_of_getElem? a)
   | tuple cs hZ hl hc=>
     refine .tuple cs hZ hl fun i x y a b=>ih ?_ (hc i x y a b)
     simp only[AV.plain,List.all_eq_true] at h
     exact h x (List.mem_of_getElem? a)
   | _=>cases h
theorem kD.closed {f:FuncId} {args:List AV} {h':aw} {v:AV} (r:kD E f args (Fa.IC E.G []) v h') (ha:args.all (AV.plain 20)=true) (hv:AV.plain 20 v=true) (h:aw):kD E f args h v h:=fun φ w vs ok hl=>by
 let φ0:Ph:=fun i=>if i<E.G then φ i else none
 have hle:φ0.le φ:=fun i l e=>by
  simp only[φ0] at e
  split at e
  · exact e
  · cases e
 have RU:∀{i o},(Fa.IC E.G []).get i=some o→False:=fun e=>by cases Fa.D8 e
 have ok0:OK E φ0 (Fa.IC E.G []) w:=by
  refine ⟨fun i l e=>?_,Nat.le_refl _,fun g hg=>?_,fun i o l e=>(RU e).elim,fun i j o p l m e=>(RU e).elim⟩
  · simp only[φ0] at e
    split at e
    · assumption
    · cases e
  · simp only[φ0,hg,if_true];exact ok.uW g hg
 have ZG:LR φ0 args vs:=⟨hl.1,fun i x y a b=>(hl.2 i x y a b).plain 20 (List.all_eq_true.1 ha x (List.mem_of_getElem? a))⟩
 obtain ⟨h1,h2⟩:=r φ0 w vs ok0 ZG
 refine ⟨h1,fun cs=>?_⟩
 obtain ⟨φ',w',v',fr,x1,x2,x3,x4⟩:=h2 cs
 have Yq:∀b,b<w.heap.size→w'.heap[b]? =w.heap[b]? :=fun b hb=>x3.Ap b hb fun i o l e=>(RU e).elim
 refine ⟨φ,w',v',fr,x1.plain 20 hv,⟨ok.Ao,ok.nx,ok.uW,fun i o l a b=>?_,ok.inj⟩,⟨Ph.le_refl φ,fun _ _=>rfl,Nat.le_refl _,x3.os,x3.tape,x3.output,x3.size,fun b hb _=>Yq b hb,fun i o l a b c=> .inr ⟨i,o,l,a,b,c,rfl⟩⟩,x4⟩
 have hr:=ok.live i o l a b
 by_cases hb:l.dZ<w.heap.size
 · rw[Yq _ hb];exact hr
 · rw[Array.getElem?_eq_none (by omega)] at hr
   exact hr.absurd.elim
end Go.Ab
end
