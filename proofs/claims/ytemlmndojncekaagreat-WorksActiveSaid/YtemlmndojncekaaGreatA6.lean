import Derived.Laws.Externs
import Derived.Lib.Bytealg
import Derived.Maps.Own
import Derived.Maps.Range
import Derived.Sort.KeysCollected
import GoSem.ClaimChange
import Derived.OpenShut
import Derived.FnData
import Derived.ChangeArms
import Derived.Test.YtemlmndojncekaaGreatA5
import Derived.Test.YtemlmndojncekaaGreatA3
import Derived.Test.YtemlmndojncekaaGreatA1
import Derived.Test.YtemlmndojncekaaGreatA4
set_option linter.unusedVariables false
set_option linter.unusedSimpArgs false
section
namespace Go.Ab.Fa
variable {E:Env} {F:RF} {n:Nat}
theorem kE {ts:List AV} {x:Operand} {a:AV} (h:fK E ts x=some a):iv E ts [x]=some [a]:=by simp [iv,fE,h]
theorem Jy {ts:List AV} {x y:Operand} {a b:AV} (h:fK E ts x=some a) (h':fK E ts y=some b):iv E ts [x,y]=some [a,b]:=by simp [iv,fE,h,h']
theorem acD (v:AV):ai5 v=yw v:=by
 cases v with
 | str s=>show some (ku s)=some s.length;rw[ie]
 | _=>rfl
theorem Vi {h:aC} {size m:Nat} {v:AV} {l:List AV} (e:X7 h size m v=some l):ic h size m v=some l:=by
 cases v with
 | aG=>
   obtain ⟨h1,e1⟩:=ig (show bc (Nat.beq m 0) (some []) none=some l from e)
   simp only[ic];rw[if_pos (pE h1)];exact e1
 | slice i o len c b=>
   obtain ⟨h1,e1⟩:=ig (show bc (Nat.ble m len) (ob none (fun obj=>CM (fun cs _ _=>bc (Nat.ble (o+m*size) (ku cs)) (some (wq (wm cs o) (m*size))) none) none obj) (h.get i)) none=some l from e)
   obtain ⟨obj,h2,e2⟩:=iS e1
   obtain ⟨cs,el,ro,rfl,e3⟩:=ug e2
   obtain ⟨h3,e4⟩:=ig e3
   have h1:=hD h1
   have h3:=hD h3
   rw[ie] at h3
   rw[sM,sL] at e4
   simp only[ic,h2]
   rw[if_pos h1]
   by_cases h0:m=0
   · subst h0
     rw[if_pos rfl]
     rw[Nat.zero_mul,List.take_zero] at e4
     exact e4
   · rw[if_neg h0,if_pos h3];exact e4
 | _=>exact e
theorem Yx {h:aC} {obj:aM} {f:aC→AV×aC} {p:AV×aC} (e:ob none (fun h'=>some (f h')) (h.new obj)=some p):∃h',h.new obj=some h'∧p=f h':=by
 obtain ⟨h',h1,e1⟩:=iS e
 exact ⟨h',h1,(Option.some.inj e1).symm⟩
theorem acE {argTypes:Array TypeId} {sT xT elem:TypeId} {xd:TypeDesc} {size bytes:Nat} {z:AV} (h1:argTypes[0]? =some sT) (h2:argTypes[1]? =some xT) (h3:E.P.underlying sT=some (.slice elem)) (h4:E.P.underlying xT=some xd)
 (h5:qu xd=false) (h6:ca E elem=some size) (h7:kH E elem=some bytes) (h8:iu E elem=some z) (h9:z.cells.length=size)
 {h:aC} {s x:AV} {p:AV×aC} (e:ai6 elem size bytes h s x=some p):du E h argTypes s x=some p:=by
 obtain ⟨m,a1,e1⟩:=iS e
 rw[acD] at a1
 obtain ⟨new,a2,e2⟩:=iS e1
 have a2:=Vi a2
 obtain ⟨a3,e3⟩:=ig e2
 obtain ⟨a4,e4⟩:=ig e3
 rw[tZ,NS] at a3
 have a4:=pE a4
 rw[ie] at a4
 unfold du
 simp only[h1,h2,h3,h4,h5,h6,h7,h8,a1,a2]
 rw[if_neg (by simp)]
 rw[if_pos ⟨h9,a3,a4⟩]
 rcases qK e4 with ⟨rfl,e5⟩ | ⟨i,o,len,cap,op,rfl,e5⟩
 · cases hm:Nat.beq m 0 with
   | true=>
     rw[hm,kQ] at e5
     simp only;rw[if_pos (pE hm)];exact e5
   | false=>
     rw[hm,fh] at e5
     obtain ⟨a5,e6⟩:=ig e5
     have a5:(4*m+4096)*(bytes+1)≤1099511627776:=hD a5
     obtain ⟨h',a6,rfl⟩:=Yx e6
     simp only
     rw[if_neg (by intro ee;rw[ee] at hm;cases hm),if_pos a5]
     simp only[a6]
 · obtain ⟨obj,a5,e6⟩:=iS e5
   obtain ⟨cs,el,ro,rfl,e7⟩:=ug e6
   obtain ⟨a6,e8⟩:=ue e7
   subst a6
   simp only[a5]
   cases hc:Nat.ble (Nat.add len m) cap with
   | true=>
     rw[hc,kQ] at e8
     have hc:len+m≤cap:=hD hc
     obtain ⟨a7,e9⟩:=ig e8
     have a7:o+(len+m)*size≤ku cs:=hD a7
     rw[ie] at a7
     rw[if_pos hc,if_pos a7,←Option.some.inj e9,K3];rfl
   | false=>
     rw[hc,fh] at e8
     have hc:cap<len+m:=l4 hc
     obtain ⟨a7,e9⟩:=ig e8
     have a7:(4*(len+m)+4096)*(bytes+1)≤1099511627776:=hD a7
     obtain ⟨a8,e10⟩:=ig e9
     have a8:o+len*size≤ku cs:=hD a8
     rw[ie] at a8
     rw[if_neg (by omega)]
     cases op with
     | true=>
       rw[kQ] at e10
       obtain ⟨a9,e11⟩:=ig e10
       obtain ⟨a10,e12⟩:=ig e11
       have a9:=pE a9
       have a10:o+cap*size=ku cs:=pE a10
       rw[ie] at a10
       obtain ⟨h',a11,rfl⟩:=Yx e12
       rw[pU,sM,sL] at a11
       rw[if_pos ⟨a7,a8,fun _=>⟨a9,a10⟩⟩]
       rw[if_pos rfl]
       have af7:(h.put i none).new (.cells ((cs.drop o).take (len*size)++new) elem false)=some h':=a11
       simp only[af7];rfl
     | false=>
       rw[fh] at e10
       obtain ⟨h',a11,rfl⟩:=Yx e10
       rw[pU,sM,sL] at a11
       rw[if_pos ⟨a7,a8,fun hh=>by cases hh⟩]
       rw[if_neg (by simp)]
       have af7:h.new (.cells ((cs.drop o).take (len*size)++new) elem false)=some h':=a11
       simp only[af7];rfl
theorem ng {b:Builtin} (h1:b≠ .len) (h2:b≠ .cap) (h3:b≠ .max) (h4:b≠ .min) (a:Array Operand) (t:Array TypeId):wz E (.call ⟨.builtin b,a,t⟩):=by
 cases b<;>first | exact absurd rfl h1 | exact absurd rfl h2 | exact absurd rfl h3 | exact absurd rfl h4 | exact ⟨fun _=>rfl,fun _ _=>rfl,fun _=>rfl⟩
theorem Vj (a:Array Operand) (t:Array TypeId):iB E F n (.call ⟨.builtin .append,a,t⟩) (match a.toList with
 | [s,x]=>wO E F n s (fun gs=>wO E F n x (fun gx=>X8 E t gs gx) .bad) .bad
 | _=> .bad):=by
 have nn:wz E (.call ⟨.builtin .append,a,t⟩):=ng (by simp) (by simp) (by simp) (by simp) a t
 generalize hl:a.toList=l
 match l with
 | []=>trivial
 | [_]=>trivial
 | _::_::_::_=>trivial
 | [s,x]=>
   simp only
   rcases cr E F n s (fun gs=>wO E F n x (fun gx=>X8 E t gs gx) .bad) (.bad:Kd F.T) with h | ⟨gs,h,hs⟩<;>rw[h]
   · trivial
   rcases cr E F n x (fun gx=>X8 E t gs gx) (.bad:Kd F.T) with h | ⟨gx,h,hx⟩<;>rw[h]
   · trivial
   unfold X8
   simp only[jb,Array.getElem?_toList,j9,qN,Yj,CW]
   have fin:∀(f:F.T→aC→Option (AV×aC)),(∀r h p,f r h=some p→du E h t (gs r) (gx r)=some p)→iB E F n (.call ⟨.builtin .append,a,t⟩) (.wr f):=by
    intro f hf
    refine ⟨nn,fun call r h rc o p ho e=>?_⟩
    simp only[ea,ho,hl,Jy (hs r) (hx r),hf r h p e]
   cases h1:t[0]? with
   | none=>trivial
   | some sT=>cases h2:t[1]? with
     | none=>trivial
     | some xT=>
       simp only
       cases h3:E.P.underlying sT with
       | none=>trivial
       | some sd=>cases h4:E.P.underlying xT with
         | none=>cases sd<;>trivial
         | some xd=>cases sd with
           | slice elem=>
             simp only
             cases h5:qu xd with
             | true=>
               rw[if_pos rfl]
               apply fin
               intro r h p e
               unfold du
               simp only[h1,h2,h3,h4,h5]
               rw[if_pos trivial];exact e
             | false=>
               rw[if_neg (by simp)]
               cases h6:ca E elem with
               | none=>trivial
               | some size=>cases h7:kH E elem with
                 | none=>trivial
                 | some bytes=>cases h8:iu E elem with
                   | none=>trivial
                   | some z=>
                     simp only
                     by_cases h9:z.cells.length=size
                     · rw[if_pos h9]
                       exact fin _ fun r h p e=>acE h1 h2 h3 h4 h5 h6 h7 h8 h9 e
                     · rw[if_neg h9];trivial
           | _=>trivial
theorem acF (a:Array Operand) (t:Array TypeId):iB E F n (.call ⟨.builtin .copy,a,t⟩) (match a.toList with
 | [s,x]=>wO E F n s (fun gs=>wO E F n x (fun gx=> .wr fun r h=>yO E h t (gs r) (gx r)) .bad) .bad
 | _=> .bad):=by
 have nn:wz E (.call ⟨.builtin .copy,a,t⟩):=ng (by simp) (by simp) (by simp) (by simp) a t
 generalize hl:a.toList=l
 match l with
 | []=>trivial
 | [_]=>trivial
 | _::_::_::_=>trivial
 | [s,x]=>
   simp only
   rcases cr E F n s (fun gs=>wO E F n x (fun gx=>(.wr fun r h=>yO E h t (gs r) (gx r):Kd F.T)) .bad) (.bad:Kd F.T) with h | ⟨gs,h,hs⟩<;>rw[h]
   · trivial
   rcases cr E F n x (fun gx=>(.wr fun r h=>yO E h t (gs r) (gx r):Kd F.T)) (.bad:Kd F.T) with h | ⟨gx,h,hx⟩<;>rw[h]
   · trivial
   refine ⟨nn,fun call r h rc o p ho e=>?_⟩
   simp only[ea,ho,hl,Jy (hs r) (hx r),e]
theorem QT (a:Array Operand) (t:Array TypeId):iB E F n (.call ⟨.builtin .recover,a,t⟩) (.yx fun _ _ h rc=>match rc with
 | .ks x=> .vU x
 | .MP _=> .fail "" none
 | _=> .val .nilIface h):=by
 refine ⟨ng (by simp) (by simp) (by simp) (by simp) a t,fun fc call _ r h rc o ho=>?_⟩
 simp only[ea,ho]
 cases rc<;>first | trivial | rfl
theorem af8 (a:Array Operand) (t:Array TypeId):iB E F n (.call ⟨.builtin .len,a,t⟩) (match ky t.toList 0,a.toList with
 | some t,[x]=>wO E F n x (fun g=>match lG E.P t with
   | some .string=> .iV fun r=>tX (fun s=>some (.int .i64 (Int.ofNat (ku s)))) none (g r)
   | some (.array m _)=> .iV fun _=>some (.int .i64 (Int.ofNat m))
   | some (.slice _)=> .iV fun r=>kX (some (.int .i64 (Int.ofNat 0))) (fun _ _ m _ _=>some (.int .i64 (Int.ofNat m))) (vZ (some (.int .i64 (Int.ofNat 0))) none (g r)) (g r)
   | some (.map _ _)=> .red fun r h=>S8 h (g r)
   | _=> .bad) .bad
 | _,_=> .bad):=by
 rw[jb,Array.getElem?_toList]
 cases ht:t[0]? with
 | none=>trivial
 | some tt=>
   generalize hl:a.toList=l
   match l with
   | []=>trivial
   | _::_::_=>trivial
   | [x]=>
     simp only[j9]
     rcases cr E F n x (fun g=>match E.P.underlying tt with
      | some .string=>(.iV fun r=>tX (fun s=>some (.int .i64 (Int.ofNat (ku s)))) none (g r):Kd F.T)
      | some (.array m _)=> .iV fun _=>some (.int .i64 (Int.ofNat m))
      | some (.slice _)=> .iV fun r=>kX (some (.int .i64 (Int.ofNat 0))) (fun _ _ m _ _=>some (.int .i64 (Int.ofNat m))) (vZ (some (.int .i64 (Int.ofNat 0))) none (g r)) (g r)
      | some (.map _ _)=> .red fun r h=>S8 h (g r)
      | _=> .bad) .bad with h | ⟨g,h,hg⟩<;>rw[h]
     · trivial
     cases hu:E.P.underlying tt with
     | none=>trivial
     | some d=>cases d with
       | string=>
         intro r v e
         obtain ⟨s,e1,e2⟩:=qJ e
         simp only[bC,ht,hl,kE (hg r),hu,e1]
         rw[←e2,ie];rfl
       | array m el=>
         intro r v e
         simp only[bC,ht,hl,kE (hg r),hu]
         exact e
       | slice el=>
         intro r v e
         rcases NR e with ⟨e1,e2⟩ | ⟨i,o,l,c,b,e1,e2⟩ | ⟨e1,e2⟩
         · simp only[bC,ht,hl,kE (hg r),hu,e1];exact e2
         · simp only[bC,ht,hl,kE (hg r),hu,e1];exact e2
         · simp only[bC,ht,hl,kE (hg r),hu,e1];exact e2
       | map key el=>
         intro r h v e
         have e:S8 h (g r)=some v:=e
         generalize hm:g r=m at e
         cases m with
         | eZ=>exact .inl (by simp only[bC,ht,hl,kE (hg r),hu,hm];exact e)
         | map i=>
           refine .inr ⟨by simp only[bC,ht,hl,kE (hg r),hu,hm],?_⟩
           obtain ⟨o,h3,h4⟩:=iS (show ob none (fun o=>ach (fun es=>some (AV.int .i64 (Int.ofNat (ku es)))) none o) (h.get i)=some v from e)
           cases o with
           | map es c=>
             have h4:some (AV.int .i64 (Int.ofNat (ku es)))=some v:=h4
             simp only[fp,ht,hl,kE (hg r),hu,hm,h3]
             rw[←h4,ie];rfl
           | _=>cases h4
         | _=>cases e
       | _=>trivial
theorem af9 (a:Array Operand) (t:Array TypeId):iB E F n (.call ⟨.builtin .cap,a,t⟩) (match ky t.toList 0,a.toList with
 | some t,[x]=>wO E F n x (fun g=>match lG E.P t with
   | some (.slice _)=> .iV fun r=>kX (some (.int .i64 (Int.ofNat 0))) (fun _ _ _ c b=>bc b none (some (.int .i64 (Int.ofNat c)))) none (g r)
   | _=> .bad) .bad
 | _,_=> .bad):=by
 rw[jb,Array.getElem?_toList]
 cases ht:t[0]? with
 | none=>trivial
 | some tt=>
   generalize hl:a.toList=l
   match l with
   | []=>trivial
   | _::_::_=>trivial
   | [x]=>
     simp only[j9]
     rcases cr E F n x (fun g=>match E.P.underlying tt with
      | some (.slice _)=>(.iV fun r=>kX (some (.int .i64 (Int.ofNat 0))) (fun _ _ _ c b=>bc b none (some (.int .i64 (Int.ofNat c)))) none (g r):Kd F.T)
      | _=> .bad) .bad with h | ⟨g,h,hg⟩<;>rw[h]
     · trivial
     cases hu:E.P.underlying tt with
     | none=>trivial
     | some d=>cases d with
       | slice el=>
         intro r v e
         rcases qK e with ⟨e1,e2⟩ | ⟨i,o,l,c,b,e1,e2⟩
         · simp only[bC,ht,hl,kE (hg r),hu,e1];exact e2
         · obtain ⟨rfl,e3⟩:=ue e2
           simp only[bC,ht,hl,kE (hg r),hu,e1];exact e3
       | _=>trivial
theorem Vk (f:FuncId) (a:Array Operand) (t:Array TypeId):iB E F n (.call ⟨.value (.func f),a,t⟩) (wL E F n a.toList (fun gs=>match E.oF f with
 | some e=> .iV fun r=>e (gs r)
 | none=>match E.j5 f with
   | some g=> .wr fun r h=>g (gs r) h
   | none=> .call (.fn f) gs) .bad):=by
 rcases yb E F n a.toList (fun gs=>match E.oF f with
  | some e=>(.iV fun r=>e (gs r):Kd F.T)
  | none=>match E.j5 f with
    | some g=> .wr fun r h=>g (gs r) h
    | none=> .call (.fn f) gs) .bad with h | ⟨gs,h,hg⟩<;>rw[h]
 · trivial
 cases hp:E.oF f with
 | some e=>
   intro r v h
   simp only[bC,hp,hg];exact h
 | none=>
   have nn:wz E (.call ⟨.value (.func f),a,t⟩):=⟨fun _=>by simp only[bC,hp],fun _ _=>rfl,fun _=>rfl⟩
   have hc:∀r,callee E (gd F n r) ⟨.value (.func f),a,t⟩=some (.fn f,gs r):=by
    intro r
    simp only[callee,hg,fK]
    simp
   cases hs:E.j5 f with
   | some g=>
     refine ⟨nn,fun call r h rc o p ho e=>?_⟩
     have e':g (gs r) h=some p:=e
     simp only[ea,ho,hc,lC,hs,e']
   | none=>
     refine ⟨nn,fun call r h rc o ho=>?_⟩
     simp only[ea,ho,hc,lC,hs]
     cases call (.fn f) (gs r) h<;>rfl
theorem Gg {a b:lV} (h1:∀v h',a= .ret v h'→b= .ret v h') (h2:∀v h',a= .panic v h'→b= .panic v h'):ELe (oY a) (oY b):=by
 cases a with
 | ret v h=>rw[h1 v h rfl];rfl
 | panic v h=>rw[h2 v h rfl];rfl
 | fail _ _=>trivial
theorem zJ (x:Operand) (hx:∀f,x≠ .func f) (a:Array Operand) (t:Array TypeId):iB E F n (.call ⟨.value x,a,t⟩) (wO E F n x (fun gf=>wL E F n a.toList (fun gs=> .yx fun call r h _=>S5
 (fun g first captured=>ob (oY (call (.fn g) (mY first (mY (gs r) captured)) h)) (fun sp=>ob (.fail "" none) (fun p=> .val p.1 p.2) (sp (mY first (mY (gs r) captured)) h)) (E.j5 g))
 (fun l=>oY (call (.DA l) (gs r) h)) (.fail "" none) (gf r)) .bad) .bad):=by
 have nn:wz E (.call ⟨.value x,a,t⟩):=by
  cases x with
  | func f=>exact absurd rfl (hx f)
  | _=>exact ⟨fun _=>rfl,fun _ _=>rfl,fun _=>rfl⟩
 let K:(F.T→AV)→(F.T→List AV)→Kd F.T:=fun gf gs=> .yx fun call r h _=>S5
  (fun g first captured=>ob (oY (call (.fn g) (mY first (mY (gs r) captured)) h)) (fun sp=>ob (.fail "" none) (fun p=> .val p.1 p.2) (sp (mY first (mY (gs r) captured)) h)) (E.j5 g))
  (fun l=>oY (call (.DA l) (gs r) h)) (.fail "" none) (gf r)
 show iB E F n _ (wO E F n x (fun gf=>wL E F n a.toList (fun gs=>K gf gs) .bad) .bad)
 rcases cr E F n x (fun gf=>wL E F n a.toList (fun gs=>K gf gs) .bad) .bad with h | ⟨gf,h,hf⟩<;>rw[h]
 · trivial
 rcases yb E F n a.toList (fun gs=>K gf gs) .bad with h | ⟨gs,h,hg⟩<;>rw[h]
 · trivial
 refine ⟨nn,fun fc call hle r h rc o ho=>?_⟩
 have ec:∀R,callee E (gd F n r) ⟨.value x,a,t⟩=R→ea E call (gd F n r) h rc o=(match R with
  | some (f,args)=>match lC E f with
    | some g=>(match g args h with | some (x,h')=> .val x h' | none=> .fail "eff" (some o))
    | none=>oY (call f args h)
  | none=> .fail "callee" (some o)):=by
  intro R hR
  simp only[ea,ho,hR]
  cases R with
  | none=>rfl
  | some p=>
    obtain ⟨f,args⟩:=p
    simp only
    cases lC E f with
    | none=>simp only;cases call f args h<;>rfl
    | some g=>rfl
 show ELe (S5 _ _ _ (gf r)) _
 cases hv:gf r with
 | func g first captured=>
   have hc:callee E (gd F n r) ⟨.value x,a,t⟩=some (.fn g,first++gs r++captured):=by
    simp only[callee,hf,hg,hv]
   rw[ec _ hc]
   have ha:mY first (mY (gs r) captured)=first++gs r++captured:=by rw[pU,pU,List.append_assoc]
   show ELe (ob (oY (fc (.fn g) (mY first (mY (gs r) captured)) h)) (fun sp=>ob (.fail "" none) (fun p=> .val p.1 p.2) (sp (mY first (mY (gs r) captured)) h)) (E.j5 g)) _
   rw[ha]
   simp only[lC]
   cases hs:E.j5 g with
   | none=>exact Gg (hle _ _ _).1 (hle _ _ _).2
   | some sp=>
     show ELe (ob (.fail "" none) (fun p=> .val p.1 p.2) (sp (first++gs r++captured) h)) _
     simp only
     cases sp (first++gs r++captured) h with
     | none=>trivial
     | some p=>rfl
 | vQ l=>
   have hc:callee E (gd F n r) ⟨.value x,a,t⟩=some (.DA l,gs r):=by
    simp only[callee,hf,hg,hv]
   rw[ec _ hc]
   simp only[lC]
   exact Gg (hle _ _ _).1 (hle _ _ _).2
 | _=>trivial
theorem Vl (x:Operand) (name:String) (a:Array Operand) (t:Array TypeId):iB E F n (.call ⟨.invoke x name,a,t⟩) (wO E F n x (fun gx=>wL E F n a.toList (fun gs=> .yx fun call r h _=>tY
 (fun t v=>ob (.fail "" none) (fun f=>oY (call (.fn f) (v::gs r) h)) (NP E t name)) (.fail "" none) (gx r)) .bad) .bad):=by
 have nn:wz E (.call ⟨.invoke x name,a,t⟩):=⟨fun _=>rfl,fun _ _=>rfl,fun _=>rfl⟩
 let K:(F.T→AV)→(F.T→List AV)→Kd F.T:=fun gx gs=> .yx fun call r h _=>tY
  (fun t v=>ob (.fail "" none) (fun f=>oY (call (.fn f) (v::gs r) h)) (NP E t name)) (.fail "" none) (gx r)
 show iB E F n _ (wO E F n x (fun gx=>wL E F n a.toList (fun gs=>K gx gs) .bad) .bad)
 rcases cr E F n x (fun gx=>wL E F n a.toList (fun gs=>K gx gs) .bad) .bad with h | ⟨gx,h,hx⟩<;>rw[h]
 · trivial
 rcases yb E F n a.toList (fun gs=>K gx gs) .bad with h | ⟨gs,h,hg⟩<;>rw[h]
 · trivial
 refine ⟨nn,fun fc call hle r h rc o ho=>?_⟩
 show ELe (tY _ _ (gx r)) _
 cases hv:gx r with
 | iface u v=>
   show ELe (ob (.fail "" none) (fun f=>oY (fc (.fn f) (v::gs r) h)) (NP E u name)) _
   cases hm:NP E u name with
   | none=>trivial
   | some f=>
     have hm':AN E u name=some f:=hm
     have ec:ea E call (gd F n r) h rc o=oY (call (.fn f) (v::gs r) h):=by
      simp only[ea,ho,hx,hg,hv,hm']
      cases call (.fn f) (v::gs r) h<;>rfl
     rw[ec]
     exact Gg (hle _ _ _).1 (hle _ _ _).2
 | _=>trivial
theorem Yy (c:Call):iB E F n (.call c) (aeF E F n c (.call c)):=by
 obtain ⟨cN,a,t⟩:=c
 cases cN with
 | value x=>cases x with
   | func f=>exact Vk f a t
   | tmp x=>exact zJ (.tmp x) (by simp) a t
   | const x=>exact zJ (.const x) (by simp) a t
   | global x=>exact zJ (.global x) (by simp) a t
 | invoke r m=>exact Vl r m a t
 | builtin b=>cases b with
   | append=>exact Vj a t
   | copy=>exact acF a t
   | recover=>exact QT a t
   | len=>exact af8 a t
   | cap=>exact af9 a t
   | max=>exact fun r v e=>e
   | min=>exact fun r v e=>e
   | _=>trivial
theorem NZ (op:Op):iB E F n op (yU E F n op):=by
 cases op with
 | move x=>
   show iB E F n _ (wO E F n x .MT .bad)
   rcases cr E F n x .MT (.bad:Kd F.T) with h | ⟨g,h,hg⟩<;>rw[h]
   · trivial
   · exact hg
 | assign x=>
   show iB E F n _ (wO E F n x .MT .bad)
   rcases cr E F n x .MT (.bad:Kd F.T) with h | ⟨g,h,hg⟩<;>rw[h]
   · trivial
   · exact hg
 | pick c a b=>exact acA c a b
 | binOp op t x y yt=>
   show iB E F n _ (wO E F n x (fun gx=>wO E F n y (fun gy=>gQ op (nX E op t (isConst x) (isConst y)) gx gy) .bad) .bad)
   rcases cr E F n x (fun gx=>wO E F n y (fun gy=>gQ op (nX E op t (isConst x) (isConst y)) gx gy) .bad) (.bad:Kd F.T) with h | ⟨gx,h,hx⟩<;>rw[h]
   · trivial
   rcases cr E F n y (fun gy=>gQ op (nX E op t (isConst x) (isConst y)) gx gy) (.bad:Kd F.T) with h | ⟨gy,h,hy⟩<;>rw[h]
   · trivial
   exact acy op t x y yt gx gy hx hy
 | unOp op t x=>
   show iB E F n _ (wO E F n x (unK op) .bad)
   rcases cr E F n x (unK op) (.bad:Kd F.T) with h | ⟨g,h,hg⟩<;>rw[h]
   · trivial
   exact af2 op t x g hg
 | fieldAddr s x f=>exact K5 s x f
 | load t a=>exact acz t a
 | store t a x=>exact Yr t a x
 | nilCheck x=>exact NU x
 | extract x i=>exact QR x i
 | field s x f=>exact Yo s x f
 | indexAddr t x ix=>exact K6 t x ix
 | index t x ix=>exact Yp t x ix
 | slice t x lo hi mx=>cases mx with
   | none=>exact Yq t x lo hi
   | some m=>exact fun r v e=>e
 | convert s d x=>exact QS s d x
 | makeInterface t x=>exact CX t x
 | makeFunc f a b=>cases f with
   | func f=>exact NW f a b
   | _=>trivial
 | alloc t=>exact Ys t
 | box t x=>exact af6 t x
 | buildSlice t len parts=>exact It t len parts
 | makeSlice t l c=>exact K7 t l c
 | makeMap t r=>cases r with
   | none=>exact ⟨fun _=>rfl,fun _ _=>rfl,fun r p e=>e⟩
   | some x=>exact ⟨fun _=>rfl,fun _ _=>rfl,fun r p e=>e⟩
 | range t x=>exact ⟨fun _=>rfl,fun _ _=>rfl,fun r p e=>e⟩
 | lookup t x ix ok=>exact Vg t x ix ok
 | build t parts=>exact Yu t parts
 | typeAssert x a b ok=>exact fun r v e=>e
 | mapUpdate t m k x=>exact K8 t m k x
 | insert t m k x=>exact Vh t m k x
 | next it s=>exact acC it s
 | panic x=>exact Yv x
 | defer c=>exact Yw c
 | call c=>exact Yy c
 | _=>trivial
end Go.Ab.Fa
end
section
namespace Go.Ab.Fa
variable {E:Env} {F:RF} {n:Nat}
def vD (_E:Env) (F:RF) (n:Nat) (o:FO F.T) (out:Out):Prop:=match o with
 | .NK r h y=>out= .ok .normal ⟨gd F n r,h,y.ds,y.rc⟩
 | .jmp e r h y=>e≠ .normal∧out= .ok e ⟨gd F n r,h,y.ds,y.rc⟩
 | .bad=>True
theorem K9 {call:bu} {s:St} {o:Oper} {v:AV} (h:bC E s.ts o.op=some v):Kr E call s o= .ok .normal {s with ts:=ew s.ts o.dst v}:=by
 simp only[Kr,h]
theorem acG {call:bu} {s:St} {o:Oper} {v:AV} (h0:bC E s.ts o.op=none) (h:fp E s.ts s.h o.op=some v):Kr E call s o= .ok .normal {s with ts:=ew s.ts o.dst v}:=by
 simp only[Kr,h0,h]
theorem K_ {call:bu} {s:St} {o:Oper} (nn:wz E o.op):Kr E call s o=(match ea E call s.ts s.h s.rc o with
 | .val v h'=> .ok .normal {s with ts:=ew s.ts o.dst v,h:=h'}
 | .defer d=> .ok .normal {s with ts:=ew s.ts o.dst AV.undef,ds:=d::s.ds}
 | .vU v=> .ok .normal {s with ts:=ew s.ts o.dst v,rc:= .done}
 | .panic v h'=> .ok (.panic v) {s with h:=h'}
 | .fail why q=> .fail why q):=by
 simp only[Kr,nn.1,nn.2.1,nn.2.2]
 generalize ea E call s.ts s.h s.rc o=x
 cases x<;>rfl
noncomputable def ajb (E:Env) (call:bu) (ops:Array Oper) (rest:List Oper) (out:Out):Out:=match out with
 | .ok .normal s'=>oV E call ops rest s'
 | r=>r
theorem acH {ops:Array Oper} {o:Oper} {rest:List Oper} {kd:Kd F.T} {s:AV→F.T→F.T} {j:I F.T} {fc call:bu} (hle:l5 fc call) (hk:iB E F n o.op kd)
 (hs:∀v r,ew (gd F n r) o.dst v=gd F n (s v r)) (hj:∀r h y,vD E F n (j.run fc r h y) (oV E call ops rest ⟨gd F n r,h,y.ds,y.rc⟩)) (r:F.T) (h:aC) (y:Y):
 vD E F n ((QL kd s j).run fc r h y) (ajb E call ops rest (Kr E call ⟨gd F n r,h,y.ds,y.rc⟩ o)):=by
 cases kd with
 | MT g=>
   rw[K9 (s:=⟨gd F n r,h,y.ds,y.rc⟩) (hk r)]
   show vD E F n (j.run fc (s (g r) r) h y) (oV E call ops rest ⟨ew (gd F n r) o.dst (g r),h,y.ds,y.rc⟩)
   rw[hs];exact hj _ _ _
 | iV f=>
   show vD E F n (ob .bad (fun v=>j.run fc (s v r) h y) (f r)) _
   cases hf:f r with
   | none=>trivial
   | some v=>
     rw[K9 (s:=⟨gd F n r,h,y.ds,y.rc⟩) (hk r v hf)]
     show vD E F n (j.run fc (s v r) h y) (oV E call ops rest ⟨ew (gd F n r) o.dst v,h,y.ds,y.rc⟩)
     rw[hs];exact hj _ _ _
 | red f=>
   show vD E F n (ob .bad (fun v=>j.run fc (s v r) h y) (f r h)) _
   cases hf:f r h with
   | none=>trivial
   | some v=>
     rcases hk r h v hf with h0 | ⟨h0,h1⟩
     · rw[K9 (s:=⟨gd F n r,h,y.ds,y.rc⟩) h0]
       show vD E F n (j.run fc (s v r) h y) (oV E call ops rest ⟨ew (gd F n r) o.dst v,h,y.ds,y.rc⟩)
       rw[hs];exact hj _ _ _
     rw[acG (s:=⟨gd F n r,h,y.ds,y.rc⟩) h0 h1]
     show vD E F n (j.run fc (s v r) h y) (oV E call ops rest ⟨ew (gd F n r) o.dst v,h,y.ds,y.rc⟩)
     rw[hs];exact hj _ _ _
 | vW f=>
   obtain ⟨h0,h1,h2⟩:=hk
   show vD E F n (ob .bad (fun p=>ob .bad (fun h'=>j.run fc (s (p.2 h.nx) r) h' y) (h.new p.1)) (f r)) _
   cases hf:f r with
   | none=>trivial
   | some p=>
     obtain ⟨obj,mk⟩:=p
     show vD E F n (ob .bad (fun h'=>j.run fc (s (mk h.nx) r) h' y) (h.new obj)) _
     cases hh:h.new obj with
     | none=>trivial
     | some h'=>
       have:Kr E call ⟨gd F n r,h,y.ds,y.rc⟩ o= .ok .normal ⟨ew (gd F n r) o.dst (mk h.nx),h',y.ds,y.rc⟩:=by
        simp only[Kr,h0,h1,h2 r _ hf,hh]
       rw[this,hs];exact hj _ _ _
 | wr f=>
   obtain ⟨nn,h1⟩:=hk
   show vD E F n (ob .bad (fun p=>j.run fc (s p.1 r) p.2 y) (f r h)) _
   cases hf:f r h with
   | none=>trivial
   | some p=>
     rw[K_ nn,h1 call r h y.rc o p rfl hf]
     show vD E F n (j.run fc (s p.1 r) p.2 y) (oV E call ops rest ⟨ew (gd F n r) o.dst p.1,p.2,y.ds,y.rc⟩)
     rw[hs];exact hj _ _ _
 | call g args=>
   obtain ⟨nn,h1⟩:=hk
   rw[K_ nn,h1 call r h y.rc o rfl]
   show vD E F n (lV.rec (motive:=fun _=>FO F.T) (fun v h'=>j.run fc (s v r) h' y) (fun v h'=> .jmp (.panic v) r h' y) (fun _ _=> .bad) (fc g (args r) h)) _
   cases hc:fc g (args r) h with
   | fail _ _=>trivial
   | ret v h'=>
     rw[(hle _ _ _).1 v h' hc]
     show vD E F n (j.run fc (s v r) h' y) (oV E call ops rest ⟨ew (gd F n r) o.dst v,h',y.ds,y.rc⟩)
     rw[hs];exact hj _ _ _
   | panic v h'=>
     rw[(hle _ _ _).2 v h' hc]
     exact ⟨by simp,rfl⟩
 | yx f=>
   obtain ⟨nn,h1⟩:=hk
   rw[K_ nn]
   have h2:=h1 fc call hle r h y.rc o rfl
   show vD E F n (Cs.rec (motive:=fun _=>FO F.T) (fun v h'=>j.run fc (s v r) h' y) (fun d=>j.run fc (s AV.undef r) h ⟨d::y.ds,y.rc⟩) (fun v=>j.run fc (s v r) h ⟨y.ds,.done⟩)
    (fun v h'=> .jmp (.panic v) r h' y) (fun _ _=> .bad) (f fc r h y.rc)) _
   cases he:f fc r h y.rc with
   | fail _ _=>trivial
   | val v h'=>
     rw[he] at h2
     have h2:ea E call (gd F n r) h y.rc o= .val v h':=h2
     rw[h2]
     show vD E F n (j.run fc (s v r) h' y) (oV E call ops rest ⟨ew (gd F n r) o.dst v,h',y.ds,y.rc⟩)
     rw[hs];exact hj _ _ _
   | defer d=>
     rw[he] at h2
     have h2:ea E call (gd F n r) h y.rc o= .defer d:=h2
     rw[h2]
     show vD E F n (j.run fc (s AV.undef r) h ⟨d::y.ds,y.rc⟩) (oV E call ops rest ⟨ew (gd F n r) o.dst AV.undef,h,d::y.ds,y.rc⟩)
     rw[hs];exact hj _ _ ⟨d::y.ds,y.rc⟩
   | vU v=>
     rw[he] at h2
     have h2:ea E call (gd F n r) h y.rc o= .vU v:=h2
     rw[h2]
     show vD E F n (j.run fc (s v r) h ⟨y.ds,.done⟩) (oV E call ops rest ⟨ew (gd F n r) o.dst v,h,y.ds,.done⟩)
     rw[hs];exact hj _ _ ⟨y.ds,.done⟩
   | panic v h'=>
     rw[he] at h2
     have h2:ea E call (gd F n r) h y.rc o= .panic v h':=h2
     rw[h2]
     exact ⟨by simp,rfl⟩
 | bad=>trivial
def CY (ts:List AV) (d:Nat) (want:Bool):Bool:=match ts[d]? with
 | some (.bool b)=>b==want
 | _=>false
theorem DS {ts:List AV} {d:Nat} (h:ts.length≤d) (want:Bool):CY ts d want=false:=by
 unfold CY;rw[List.getElem?_eq_none h]
theorem DT {ts:List AV} {d:Nat} {v:AV} (h:ts[d]? =some v) (want:Bool):CY ts d want=lP (fun b=>b==want) false v:=by
 unfold CY;rw[h];cases v<;>rfl
theorem A' (ops:Array Oper) (ts:List AV) (o:Oper) {j:Nat} {want:Bool} (hg:o.guard=some (j,want)):cV ops ts o=(match (ops[j]?).bind (·.dst) with
 | some d=>match ts[d]? with
   | some (.bool b)=>b==want
   | _=>false
 | none=>false):=by simp only[cV,hg];rfl
theorem Yz (ops:Array Oper) (j:Nat):ob none (fun p=>p.dst) (ky ops.toList j)=(ops[j]?).bind (·.dst):=by
 rw[jb,Array.getElem?_toList];cases ops[j]? <;>rfl
theorem YA (_hn:n≤F.N) (ops:Array Oper) (o:Oper) (a b:I F.T) (call:bu) (r:F.T) (h:aC) (y:Y):
 (S' F n ops o a b).run call r h y=bif cV ops (gd F n r) o then a.run call r h y else b.run call r h y:=by
 unfold S'
 cases hg:o.guard with
 | none=>simp only[cV,hg];rfl
 | some p=>
   obtain ⟨j,want⟩:=p
   rw[A' ops _ o hg]
   simp only[Yz]
   cases (ops[j]?).bind (·.dst) with
   | none=>rfl
   | some d=>
     show (bc (Nat.ble n d) b (X9 (F.get d).f want a b)).run call r h y=bif CY (gd F n r) d want then a.run call r h y else b.run call r h y
     cases hd:Nat.ble n d with
     | true=>
       rw[DS (by rw[j8];exact hD hd)];rfl
     | false=>
       rw[DT (x7 F n r (l4 hd)),fh]
       cases want with
       | true=>
         show lP (fun t=>bc t (a.run call r h y) (b.run call r h y)) (b.run call r h y) ((F.get d).f r)=_
         cases (F.get d).f r with
         | bool t=>cases t<;>rfl
         | _=>rfl
       | false=>
         show lP (fun t=>bc t (b.run call r h y) (a.run call r h y)) (b.run call r h y) ((F.get d).f r)=_
         cases (F.get d).f r with
         | bool t=>cases t<;>rfl
         | _=>rfl
theorem N0 (_hn:n≤F.N) (ops:Array Oper) (o:Oper) (a b:D F.T) (call:bu) (r:F.T) (h:aC) (y:Y):
 (DN F n ops o a b).run call r h y=bif cV ops (gd F n r) o then a.run call r h y else b.run call r h y:=by
 unfold DN
 cases hg:o.guard with
 | none=>simp only[cV,hg];rfl
 | some p=>
   obtain ⟨j,want⟩:=p
   rw[A' ops _ o hg]
   simp only[Yz]
   cases (ops[j]?).bind (·.dst) with
   | none=>rfl
   | some d=>
     show (bc (Nat.ble n d) b (Ya (F.get d).f want a b)).run call r h y=bif CY (gd F n r) d want then a.run call r h y else b.run call r h y
     cases hd:Nat.ble n d with
     | true=>
       rw[DS (by rw[j8];exact hD hd)];rfl
     | false=>
       rw[DT (x7 F n r (l4 hd)),fh]
       cases want with
       | true=>
         show lP (fun t=>bc t (a.run call r h y) (b.run call r h y)) (b.run call r h y) ((F.get d).f r)=_
         cases (F.get d).f r with
         | bool t=>cases t<;>rfl
         | _=>rfl
       | false=>
         show lP (fun t=>bc t (b.run call r h y) (a.run call r h y)) (b.run call r h y) ((F.get d).f r)=_
         cases (F.get d).f r with
         | bool t=>cases t<;>rfl
         | _=>rfl
theorem Gh (hn:n≤F.N) {fc call:bu} (hle:l5 fc call) (ops:Array Oper):∀(l:List Oper) (r:F.T) (h:aC) (y:Y),
 vD E F n ((ya E F n ops l).run fc r h y) (oV E call ops l ⟨gd F n r,h,y.ds,y.rc⟩)
 | [],r,h,y=>rfl
 | o::rest,r,h,y=>by
   have ih:=Gh hn hle ops rest
   show vD E F n ((X_ E F n ops o (ya E F n ops rest)).run fc r h y) _
   unfold X_
   obtain ⟨s,h1,hs⟩:=Tn F n hn o.dst (fun s=>S' F n ops o (QL (yU E F n o.op) s (ya E F n ops rest)) (aeG s (ya E F n ops rest)))
   rw[h1,YA hn]
   rw[oV]
   cases hw:cV ops (gd F n r) o with
   | true=>
     rw[if_pos rfl]
     exact acH hle (NZ o.op) hs ih r h y
   | false=>
     rw[if_neg (by simp)]
     show vD E F n ((ya E F n ops rest).run fc (s AV.undef r) h y) _
     simp only[hs]
     exact ih _ _ _
def madeOf:TK→Option Nat
 | .vW n _=>some n
 | _=>none
theorem Ba (x:Step) (t:List Step):tH (x::t)=match madeOf x.kind with | none=>tH t | some i=>i::tH t:=by
 show List.filterMap (fun x:Step=>madeOf x.kind) (x::t)=_
 rw[List.filterMap_cons];cases madeOf x.kind<;>rfl
inductive rF (E:Env) (ops:Array Oper) (pl:n8):List Vc→List Step→Prop
 | nil:rF E ops pl [] []
 | skip {x:Step} {c:List Vc} {t:List Step} (hs:∀h,kW E ops x h=true) (hm:madeOf x.kind=none) (ht:rF E ops pl c t):rF E ops pl c (x::t)
 | chk {x:Step} {c0:Vc} {c:List Vc} {t:List Step} (hk:c0.k=x.k) (hl:c0.m=lW pl.bQ pl.an x.i+1 - x.k) (hm:madeOf x.kind=c0.made)
  (hs:∀h,c0.f h=true→kW E ops x h=true) (ht:rF E ops pl c t):rF E ops pl (c0::c) (x::t)
theorem rF.made {ops:Array Oper} {pl:n8} {c:List Vc} {t:List Step} (h:rF E ops pl c t):Td c=tH t:=by
 induction h with
 | nil=>rfl
 | skip hs hm ht ih=>rw[Ba,hm];exact ih
 | chk hk hl hm hs ht ih=>
   rename_i x c0 c t
   show ob (Td c) (fun i=>i::Td c) c0.made=_
   rw[Ba,hm,ih]
   cases c0.made<;>rfl
theorem rF.all {ops:Array Oper} {pl:n8} {hs:List aC} {c:List Vc} {t:List Step} (h:rF E ops pl c t) (e:c.all (fun x=>CP x.f (wq (wm hs x.k) x.m))=true):
 t.all (fun x=>((hs.drop x.k).take (lW pl.bQ pl.an x.i+1 - x.k)).all (kW E ops x))=true:=by
 induction h with
 | nil=>rfl
 | skip tM hm ht ih=>
   rw[List.all_cons,ih e,Bool.and_true,List.all_eq_true]
   intro h _;exact tM h
 | chk hk hl hm tM ht ih=>
   rw[List.all_cons,Bool.and_eq_true] at e
   rw[List.all_cons,ih e.2,Bool.and_true,List.all_eq_true]
   have e1:=e.1
   rw[tZ,sM,sL,List.all_eq_true,hk,hl] at e1
   intro h hh;exact tM h (e1 h hh)
theorem Gi {ops:Array Oper} {pl:n8} {hs:List aC} {c:List Vc} {t:List Step} (h:rF E ops pl c t) (e:uc c hs=true):tI E ops pl t hs=true:=by
 unfold uc at e
 rw[qI,Bool.and_eq_true,CT,tZ,h.made] at e
 unfold tI
 rw[Bool.and_eq_true]
 exact ⟨e.1,h.all e.2⟩
def Ia (E:Env) (F:RF) (n:Nat) (ops:Array Oper) (pl:n8) (d:DO F.T) (t:lD):Prop:=match d with
 | .ok tr hs r h y=>∃P5,t= .ok P5 hs ⟨gd F n r,h,y.ds,y.rc⟩∧rF E ops pl tr P5
 | .bad=>True
theorem Ia.skip {ops:Array Oper} {pl:n8} {d:DO F.T} {t:lD} (h:Ia E F n ops pl d t) {x:Step} (hs:∀h,kW E ops x h=true) (hm:madeOf x.kind=none):Ia E F n ops pl d (t.step x):=by
 cases d with
 | bad=>trivial
 | ok tr tM r h' y=>
   obtain ⟨P5,rfl,h2⟩:=h
   exact ⟨x::P5,rfl,.skip hs hm h2⟩
theorem Ia.bound {ops:Array Oper} {pl:n8} {d:DO F.T} {t:lD} (h:Ia E F n ops pl d t) (h0:aC):Ia E F n ops pl (ua h0 d) (t.bound h0):=by
 cases d with
 | bad=>trivial
 | ok tr tM r h' y=>
   obtain ⟨P5,rfl,h2⟩:=h
   exact ⟨P5,rfl,h2⟩
theorem Ia.chk {ops:Array Oper} {pl:n8} {d:DO F.T} {t:lD} (h:Ia E F n ops pl d t) {x:Step} {c:Vc} (hk:c.k=x.k) (hl:c.m=lW pl.bQ pl.an x.i+1 - x.k)
 (hm:madeOf x.kind=c.made) (hs:∀h,c.f h=true→kW E ops x h=true):Ia E F n ops pl (Jw c d) (t.step x):=by
 cases d with
 | bad=>trivial
 | ok tr tM r h' y=>
   obtain ⟨P5,rfl,h2⟩:=h
   exact ⟨x::P5,rfl,.chk hk hl hm hs h2⟩
theorem N1:∀(m:Nat) (x y:AV),F_ m x y=true→AV.same m x y=true
 | 0,_,_,e=>by cases e
 | m+1,x,y,e=>by
   have ih:=N1 m
   have all:∀(a b:List AV),leq (F_ m) a b=true→eD (AV.same m) a b=true:=by
    intro a
    induction a with
    | nil=>intro b;cases b<;>intro e<;>first | rfl | cases e
    | cons x tl ihl=>
      intro b
      cases b with
      | nil=>intro e;cases e
      | cons y tm=>
        intro e
        have e:bc (F_ m x y) (leq (F_ m) tl tm) false=true:=e
        rw[qI,Bool.and_eq_true] at e
        rw[eD,Bool.and_eq_true]
        exact ⟨ih _ _ e.1,ihl _ e.2⟩
   cases x with
   | int k a=>cases y with
     | int j b=>
       have e:bc (XV k j) (ieq a b) false=true:=e
       rw[qI,Bool.and_eq_true,QO] at e
       rw[AV.same,Tg e.1,e.2];simp
     | _=>cases e
   | str a=>cases y with
     | str b=>
       have e:leq F4 a b=true:=e
       rw[QP] at e
       rw[AV.same];exact e
     | _=>cases e
   | ptr i o=>cases y with
     | ptr j p=>
       have e:bc (Nat.beq i j) (Nat.beq o p) false=true:=e
       rw[qI,Bool.and_eq_true] at e
       rw[AV.same,pE e.1,pE e.2];simp
     | _=>cases e
   | bool a=>cases y with
     | bool b=>
       have e:bc a b (zH b)=true:=e
       rw[AV.same]
       cases a<;>cases b<;>first | rfl | cases e
     | _=>cases e
   | agg a=>cases y with
     | agg b=>rw[AV.same];exact all a b e
     | _=>cases e
   | _=>exact e
theorem Gj (hn:n≤F.N) {fc call:bu} (hle:l5 fc call) (ops:Array Oper) (pl:n8):∀(l:List Nat) (k:Nat) (r:F.T) (h:aC) (y:Y),
 Ia E F n ops pl ((kP E F n ops pl l k).run fc r h y) (dE E call ops l k ⟨gd F n r,h,y.ds,y.rc⟩)
 | [],k,r,h,y=>⟨[],rfl,.nil⟩
 | i::rest,k,r,h,y=>by
   have ih:=Gj hn hle ops pl rest
   rw[dE]
   show Ia E F n ops pl (D.run (ob ⟨fun _ _ _ _=> .bad⟩ (fun o=>wS F n o.dst fun s=>
    bc (sJ E o.op) (canon (k+1) fun k'=>DN F n ops o (Ta (yU E F n o.op) s (kP E F n ops pl rest k')) (QM s (kP E F n ops pl rest k')))
     (canon (E2 pl.bQ pl.an i+1 - k) fun m=>DN F n ops o (Tb k m (yU E F n o.op) s (kP E F n ops pl rest k)) (X' s (kP E F n ops pl rest k)))) (ky ops.toList i)) fc r h y) _
   rw[jb,Array.getElem?_toList]
   cases ho:ops[i]? with
   | none=>trivial
   | some o=>
     have iH:(ops.getD i default).op=o.op:=by rw[Array.getD_eq_getD_getElem?,ho];rfl
     simp only[ack,m6,wx,QJ]
     obtain ⟨s,h1,hs⟩:=Tn F n hn o.dst (fun s=>
      bc (gY E o.op) (DN F n ops o (Ta (yU E F n o.op) s (kP E F n ops pl rest (k+1))) (QM s (kP E F n ops pl rest (k+1))))
      (DN F n ops o (Tb k (lW pl.bQ pl.an i+1 - k) (yU E F n o.op) s (kP E F n ops pl rest k)) (X' s (kP E F n ops pl rest k))))
     rw[h1]
     have hk:=NZ (E:=E) (F:=F) (n:=n) o.op
     generalize yU E F n o.op=kd at hk
     cases he:gY E o.op with
     | true=>
       rw[kQ,N0 hn,if_pos rfl]
       cases hw:cV ops (gd F n r) o with
       | false=>
         rw[if_neg (by simp)]
         show Ia E F n ops pl (ua h ((kP E F n ops pl rest (k+1)).run fc (s AV.undef r) h y)) _
         simp only[hs]
         exact ((ih _ _ _ _).bound h).skip (fun _=>rfl) rfl
       | true=>
         rw[if_pos rfl]
         show Ia E F n ops pl ((Ta kd s (kP E F n ops pl rest (k+1))).run fc r h y) _
         cases kd with
         | wr f=>
           show Ia E F n ops pl (ob .bad (fun p=>ua h ((kP E F n ops pl rest (k+1)).run fc (s p.1 r) p.2 y)) (f r h)) _
           cases hf:f r h with
           | none=>trivial
           | some p=>
             simp only[hk.2 call r h y.rc o p rfl hf,hs]
             exact ((ih _ _ _ _).bound h).skip (fun _=>rfl) rfl
         | call g args=>
           show Ia E F n ops pl (lV.rec (motive:=fun _=>DO F.T) (fun v h'=>ua h ((kP E F n ops pl rest (k+1)).run fc (s v r) h' y)) (fun _ _=> .bad) (fun _ _=> .bad) (fc g (args r) h)) _
           cases hc:fc g (args r) h with
           | fail _ _=>trivial
           | panic _ _=>trivial
           | ret v h'=>
             simp only[hk.2 call r h y.rc o rfl,(hle _ _ _).1 v h' hc,oY,hs]
             exact ((ih _ _ _ _).bound h).skip (fun _=>rfl) rfl
         | yx f=>
           show Ia E F n ops pl (Cs.rec (motive:=fun _=>DO F.T) (fun v h'=>ua h ((kP E F n ops pl rest (k+1)).run fc (s v r) h' y)) (fun _=> .bad) (fun _=> .bad) (fun _ _=> .bad) (fun _ _=> .bad) (f fc r h y.rc)) _
           have h2:=hk.2 fc call hle r h y.rc o rfl
           cases hf:f fc r h y.rc with
           | val v h'=>
             rw[hf] at h2
             have h2:ea E call (gd F n r) h y.rc o= .val v h':=h2
             simp only[h2,hs]
             exact ((ih _ _ _ _).bound h).skip (fun _=>rfl) rfl
           | _=>trivial
         | _=>trivial
     | false=>
       rw[fh,N0 hn,if_neg (by simp)]
       cases hw:cV ops (gd F n r) o with
       | false=>
         rw[if_neg (by simp)]
         show Ia E F n ops pl ((kP E F n ops pl rest k).run fc (s AV.undef r) h y) _
         simp only[hs]
         exact (ih _ _ _ _).skip (fun _=>rfl) rfl
       | true=>
         rw[if_pos rfl]
         show Ia E F n ops pl ((Tb k (lW pl.bQ pl.an i+1 - k) kd s (kP E F n ops pl rest k)).run fc r h y) _
         cases kd with
         | MT g=>
           simp only[hk r,hs]
           exact (ih _ _ _ _).skip (fun _=>rfl) rfl
         | iV f=>
           show Ia E F n ops pl (ob .bad (fun v=>(kP E F n ops pl rest k).run fc (s v r) h y) (f r)) _
           cases hf:f r with
           | none=>trivial
           | some v=>
             simp only[hk r v hf,hs]
             exact (ih _ _ _ _).skip (fun _=>rfl) rfl
         | red f=>
           show Ia E F n ops pl (ob .bad (fun v=>Jw ⟨k,_,none,fun h'=>ob false (fun v'=>F_ 20 v' v) (f r h')⟩ ((kP E F n ops pl rest k).run fc (s v r) h y)) (f r h)) _
           cases hf:f r h with
           | none=>trivial
           | some v=>
             rcases hk r h v hf with q0 | ⟨q0,q1⟩
             · simp only[q0,hs]
               exact (ih _ _ _ _).chk rfl rfl rfl fun h' _=>rfl
             simp only[q0,q1,hs]
             refine (ih _ _ _ _).chk rfl rfl rfl fun h' e=>?_
             have e:ob false (fun v'=>F_ 20 v' v) (f r h')=true:=e
             cases hf':f r h' with
             | none=>rw[hf'] at e;cases e
             | some v'=>
               rw[hf'] at e
               rcases hk r h' v' hf' with q2 | ⟨_,q3⟩
               · rw[q0] at q2;cases q2
               simp only[kW,iH,q3]
               exact N1 20 v' v e
         | vW f=>
           obtain ⟨h3,h4,h5⟩:=hk
           show Ia E F n ops pl (ob .bad (fun p=>ob .bad (fun h'=>Jw ⟨k,_,some h.nx,fun Tc=>ob false (fun o=>aM.same o p.1) (Tc.get h.nx)⟩ ((kP E F n ops pl rest k).run fc (s (p.2 h.nx) r) h' y)) (h.new p.1)) (f r)) _
           cases hf:f r with
           | none=>trivial
           | some p=>
             obtain ⟨obj,mk⟩:=p
             show Ia E F n ops pl (ob .bad (fun h'=>Jw ⟨k,_,some h.nx,fun Tc=>ob false (fun o=>aM.same o obj) (Tc.get h.nx)⟩ ((kP E F n ops pl rest k).run fc (s (mk h.nx) r) h' y)) (h.new obj)) _
             cases hh:h.new obj with
             | none=>trivial
             | some h'=>
               simp only[h3,h4,h5 r _ hf,hh,hs]
               refine (ih _ _ _ _).chk rfl rfl rfl fun Tc e=>?_
               have e:ob false (fun o=>aM.same o obj) (Tc.get h.nx)=true:=e
               cases hf':Tc.get h.nx with
               | none=>rw[hf'] at e;cases e
               | some o'=>
                 rw[hf'] at e
                 simp only[kW,hf']
                 exact e
         | _=>trivial
theorem YB {fc call:bu} (hle:l5 fc call) {ts:List AV} {h h':aC} {rc:RC} {dst:Option Tmp} {c:Call} {ty:TypeId} {pos:String} {after:Array Edge} {guard:Option (Nat×Bool)} {v:AV} (e:ea E fc ts h rc ⟨dst,.call c,ty,pos,after,guard⟩= .panic v h'):
 ea E call ts h rc ⟨dst,.call c,ty,pos,after,guard⟩= .panic v h':=by
 obtain ⟨cN,args,aT⟩:=c
 cases cN with
 | builtin b=>
   cases b<;>simp only[ea] at e<;>(try (simp at e;done))<;>(split at e<;>(try (simp at e;done))<;>(try (split at e<;>simp at e)))
 | value f=>
   simp only[ea] at e ⊢
   split at e
   · split at e
     · split at e<;>simp at e
     · split at e
       · simp at e
       · rename_i hc
         simp at e;obtain ⟨rfl,rfl⟩:=e
         simp only[(hle _ _ _).2 _ _ hc]
       · simp at e
   · simp at e
 | invoke x name=>
   simp only[ea] at e ⊢
   split at e
   · split at e
     · split at e
       · simp at e
       · rename_i hc
         simp at e;obtain ⟨rfl,rfl⟩:=e
         simp only[(hle _ _ _).2 _ _ hc]
       · simp at e
     · simp at e
   · simp at e
theorem rF.snoc {ops:Array Oper} {pl:n8} {c:List Vc} {t:List Step} (h:rF E ops pl c t) {x:Step} (hs:∀h,kW E ops x h=true) (hm:madeOf x.kind=none):rF E ops pl c (t++[x]):=by
 induction h with
 | nil=>exact .skip hs hm .nil
 | skip a b _ ih=>exact .skip a b ih
 | chk a b d e _ ih=>exact .chk a b d e ih
theorem acI (hn:n≤F.N) {fc call:bu} (hle:l5 fc call) (ops:Array Oper) (pl:n8) (r:F.T) (h:aC) (y:Y):
 vD E F n (aci E F n ops pl fc r h y) (match dE E call ops pl.order 0 ⟨gd F n r,h,y.ds,y.rc⟩ with
  | .ok tr hs s'=>if tI E ops pl tr hs then .ok .normal s' else .fail "still" (ops[0]?)
  | .fail why o=>match Fv E call ops ⟨gd F n r,h,y.ds,y.rc⟩ pl with
    | some (v,s2)=> .ok (.panic v) s2
    | none=> .fail why o):=by
 unfold aci
 split
 · trivial
 rename_i i front ab0
 split
 · rename_i tr hs r1 h1 y1 dst c ty pos after guard hd ho
   split
   · rename_i v h' P1 XH
     split
     · rename_i hl
       have hk:=Gj (E:=E) hn hle ops pl front.reverse 0 r h y
       rw[hd] at hk
       obtain ⟨P5,e1,e2⟩:=hk
       have XD:pl.order=front.reverse++[i]:=by
        have:=congrArg List.reverse ab0
        simpa using this
       have ajc:=YB hle XH
       have UY:=P1
       simp only[Bool.and_eq_true] at UY
       obtain ⟨why,q,e3⟩:=CI ho UY.1.1 front.reverse 0 _ e1 UY.1.2 ajc
       rw[XD,e3]
       have XI:Fv E call ops ⟨gd F n r,h,y.ds,y.rc⟩ pl=some (v,⟨gd F n r1,h',y1.ds,y1.rc⟩):=by
        unfold Fv
        rw[ab0]
        simp only[e1,ho,P1,if_true,ajc]
        rw[if_pos (Gi (e2.snoc (fun _=>rfl) rfl) hl)]
       simp only[XI]
       exact ⟨by simp,rfl⟩
     · trivial
   · trivial
 · trivial
theorem YC (hn:n≤F.N) {fc call:bu} (hle:l5 fc call) (ops:Array Oper) (r:F.T) (h:aC) (y:Y):
 vD E F n ((Yb E F n ops).run fc r h y) (DB E call ops ⟨gd F n r,h,y.ds,y.rc⟩):=by
 unfold Yb DB
 rw[X3]
 cases vV E ops with
 | none=>trivial
 | some pl=>
   show vD E F n (DO.rec (motive:=fun _=>FO F.T) (fun tr hs r' h' y'=>bc (uc tr hs) (.NK r' h' y') .bad) (aci E F n ops pl fc r h y) ((kP E F n ops pl pl.order 0).run fc r h y)) _
   have:=Gj (E:=E) hn hle ops pl pl.order 0 r h y
   cases hd:(kP E F n ops pl pl.order 0).run fc r h y with
   | bad=>exact acI hn hle ops pl r h y
   | ok tr hs r' h' y'=>
     rw[hd] at this
     obtain ⟨P5,h1,h2⟩:=this
     show vD E F n (bc (uc tr hs) (.NK r' h' y') .bad) _
     cases hl:uc tr hs with
     | false=>trivial
     | true=>
       simp only[h1]
       rw[if_pos (Gi h2 hl)]
       rfl
end Go.Ab.Fa
end
section
namespace Go.Ab.Fa
variable {E:Env} {F:RF} {n:Nat}
theorem N2 {fc call:bu} (hle:l5 fc call) {f:Operand} {ps:Array Tmp} {as bd:Code} {s:St} {e:my} {s':St} (h:pz E fc f ps as bd s= .ok e s'):pz E call f ps as bd s= .ok e s':=by
 unfold pz at h ⊢
 split at h
 case h_2=>cases h
 rename_i g first captured hv
 split at h
 case h_2=>cases h
 rename_i dn h1 ds1 ho
 split at h
 case h_2=>cases h
 rename_i h2 hn
 cases hc:fc (.fn g) (first++[.vQ h1.nx]++captured) h2 with
 | ret v h3=>rw[hc] at h;rw[(hle _ _ _).1 _ _ hc];exact h
 | panic v h3=>rw[hc] at h;rw[(hle _ _ _).2 _ _ hc];exact h
 | fail why q=>rw[hc] at h;cases h
theorem Vm {call:bu} {f:Operand} {ps:Array Tmp} {as bd:Code} {s:St} {e:my} {s':St} (h:pz E call f ps as bd s= .ok e s'):s'.ts=s.ts:=by
 unfold pz at h
 split at h
 case h_2=>cases h
 split at h
 case h_2=>cases h
 split at h
 case h_2=>cases h
 split at h
 · split at h
   · cases h
   · split at h
     · simp only[Out.ok.injEq] at h;rw[←h.2]
     · cases h
   · cases h
 · simp only[Out.ok.injEq] at h;rw[←h.2]
 · cases h
theorem YD {o:FO F.T} {out:Out} (h:vD E F n o out) {k:F.T→aC→Y→FO F.T} {g:St→Out} (hk:∀r h y,vD E F n (k r h y) (g ⟨gd F n r,h,y.ds,y.rc⟩)):
 vD E F n (fo k .jmp .bad o) (match (generalizing:=false) out with | .ok .normal s'=>g s' | r=>r):=by
 cases o with
 | NK r h' y=>rw[show out=_ from h];exact hk r h' y
 | jmp e r h' y=>
   obtain ⟨h1,h2⟩:=h
   rw[h2]
   cases e with
   | normal=>exact absurd rfl h1
   | _=>exact ⟨by simp,rfl⟩
 | bad=>trivial
theorem nh (hn:n≤F.N) {fc call:bu} (hle:l5 fc call):∀(c:Code) (m:Nat) (r:F.T) (h:aC) (y:Y),
 vD E F n ((oZ E F n c).run m fc r h y) (exec E call m c ⟨gd F n r,h,y.ds,y.rc⟩)
 | .skip,m,r,h,y=>by cases m with
   | zero=>trivial
   | succ m=>exact rfl
 | .label _,m,r,h,y=>by cases m with
   | zero=>trivial
   | succ m=>exact rfl
 | .ret,m,r,h,y=>by cases m with
   | zero=>trivial
   | succ m=>exact ⟨by simp,rfl⟩
 | .exit id,m,r,h,y=>by cases m with
   | zero=>trivial
   | succ m=>exact ⟨by simp,rfl⟩
 | .region _ ops draw,m,r,h,y=>by
   cases m with
   | zero=>cases draw<;>trivial
   | succ m=>cases draw with
     | true=>exact YC hn hle ops r h y
     | false=>exact Gh hn hle ops ops.toList r h y
 | .seq a b,m,r,h,y=>by cases m with
   | zero=>trivial
   | succ m=>
     have h1:=nh hn hle a m r h y
     have h2:=nh hn hle b m
     exact YD h1 (g:=fun s'=>exec E call m b s') h2
 | .cond x a b,m,r,h,y=>by
   have ha:=nh hn hle a
   have hb:=nh hn hle b
   show vD E F n (C.run (wO E F n x (fun g=>⟨fun m call r h y=>nS .bad (fun i=>lP (fun t=>bc t ((oZ E F n a).run i call r h y) ((oZ E F n b).run i call r h y)) .bad (g r)) m⟩) ⟨fun _ _ _ _ _=> .bad⟩) m fc r h y) _
   rcases cr E F n x (fun g=>(⟨fun m call r h y=>nS .bad (fun i=>lP (fun t=>bc t ((oZ E F n a).run i call r h y) ((oZ E F n b).run i call r h y)) .bad (g r)) m⟩:C F.T)) ⟨fun _ _ _ _ _=> .bad⟩ with hw | ⟨g,hw,hg⟩<;>rw[hw]
   · trivial
   cases m with
   | zero=>trivial
   | succ m=>
     show vD E F n (lP (fun t=>bc t ((oZ E F n a).run m fc r h y) ((oZ E F n b).run m fc r h y)) .bad (g r)) _
     rw[exec]
     simp only[hg]
     cases g r with
     | bool t=>cases t with
       | true=>exact ha m r h y
       | false=>exact hb m r h y
     | _=>trivial
 | .block id b,m,r,h,y=>by cases m with
   | zero=>trivial
   | succ m=>
     have hb:=nh hn hle b m r h y
     show vD E F n (fo .NK (fun e r' h' y'=>Yc (fun j=>bc (Nat.beq j id) (.NK r' h' y') (.jmp e r' h' y')) (.jmp e r' h' y') e) .bad ((oZ E F n b).run m fc r h y)) _
     rw[exec]
     cases hr:(oZ E F n b).run m fc r h y with
     | bad=>trivial
     | NK r' h' y'=>
       rw[hr] at hb
       have hb:exec E call m b _= .ok .normal ⟨gd F n r',h',y'.ds,y'.rc⟩:=hb
       rw[hb];exact rfl
     | jmp e r' h' y'=>
       rw[hr] at hb
       obtain ⟨h1,h2⟩:=hb
       rw[h2]
       cases e with
       | normal=>exact absurd rfl h1
       | exit j=>
         show vD E F n (bc (Nat.beq j id) (.NK r' h' y') (.jmp (.exit j) r' h' y')) (if j=id then _ else _)
         cases hj:Nat.beq j id with
         | true=>rw[if_pos (pE hj)];exact rfl
         | false=>rw[if_neg (by intro e;rw[e,Nat.beq_refl] at hj;cases hj)];exact ⟨by simp,rfl⟩
       | ret=>exact ⟨by simp,rfl⟩
       | panic v=>exact ⟨by simp,rfl⟩
 | .loop b,m,r,h,y=>by
   have hb:=nh hn hle b
   show vD E F n (Yd (oZ E F n b) m fc r h y) _
   induction m generalizing r h y with
   | zero=>trivial
   | succ m ih=>
     show vD E F n (fo (fun r' h' y'=>Yd (oZ E F n b) m fc r' h' y') .jmp .bad ((oZ E F n b).run m fc r h y)) _
     exact YD (hb m r h y) (g:=fun s'=>exec E call m (.loop b) s') ih
 | .rangeFunc f ps as bd,m,r,h,y=>by
   show vD E F n ((acj (K1 E F n f ps as bd)).run m fc r h y) _
   cases m with
   | zero=>trivial
   | succ m=>
     show vD E F n ((K1 E F n f ps as bd).run fc r h y) (pz E call f ps as bd ⟨gd F n r,h,y.ds,y.rc⟩)
     unfold K1
     rcases cr E F n f (fun _=>(⟨fun call r h y=>aeH r (pz E call f ps as bd ⟨gd F n r,h,y.ds,y.rc⟩)⟩:I F.T)) ⟨fun _ _ _ _=> .bad⟩ with hw | ⟨g,hw,_⟩<;>rw[hw]
     · trivial
     simp only
     cases hr:pz E fc f ps as bd ⟨gd F n r,h,y.ds,y.rc⟩ with
     | fail _ _=>trivial
     | ok e s=>
       rw[N2 hle hr]
       have ht:=Vm hr
       obtain ⟨ts,hh,ds,rc⟩:=s
       simp only at ht
       subst ht
       cases e with
       | normal=>exact rfl
       | _=>exact ⟨by simp,rfl⟩
 | .scope b,m,r,h,y=>by cases m with
   | zero=>trivial
   | succ m=>exact nh hn hle b m r h y
 | .goto _,m,r,h,y=>trivial
 | .refuse _,m,r,h,y=>trivial
theorem Bb:∀(l:List ResultVar) (r:F.T) (h:aC) (vs:List AV),(CV E F n l).f r h=some vs→mF E h (gd F n r) l=some vs
 | [],r,h,vs,e=>e
 | .tmp t::rest,r,h,vs,e=>by
   rw[CV] at e
   obtain ⟨g,h1,h2⟩:=K4 F n t (fun g=>wW (CV E F n rest) fun k=>(⟨fun r h=>ob none (fun vs=>some (g r::vs)) (k r h)⟩:W (F.T→aC→Option (List AV))))
   rw[h1] at e
   obtain ⟨tN,h3,h4⟩:=iS (show ob none (fun vs=>some (g r::vs)) ((CV E F n rest).f r h)=some vs from e)
   rw[mF]
   simp only[h2,Bb rest r h tN h3]
   exact h4
 | .cell a t::rest,r,h,vs,e=>by
   rw[CV] at e
   obtain ⟨g,h1,h2⟩:=K4 F n a (fun g=>wW (CV E F n rest) fun k=>(⟨fun r h=>ob none (fun v=>ob none (fun vs=>some (v::vs)) (k r h)) (bh E h t (g r))⟩:W (F.T→aC→Option (List AV))))
   rw[h1] at e
   obtain ⟨v,h3,h4⟩:=iS (show ob none (fun v=>ob none (fun vs=>some (v::vs)) ((CV E F n rest).f r h)) (bh E h t (g r))=some vs from e)
   obtain ⟨tN,h5,h6⟩:=iS h4
   rw[mF]
   simp only[h2,h3,Bb rest r h tN h5]
   exact h6
def BOk (E:Env) (rs:List ResultVar) (b:BO) (out:Out):Prop:=match b with
 | .fin res h y=>∃e ts,(e= .normal∨e= .ret)∧out= .ok e ⟨ts,h,y.ds,y.rc⟩∧∀h' vs,res h'=some vs→mF E h' ts rs=some vs
 | .pan v res h y=>∃ts,out= .ok (.panic v) ⟨ts,h,y.ds,y.rc⟩∧∀h' vs,res h'=some vs→mF E h' ts rs=some vs
 | .bad=>True
theorem N3 {fc call:bu} (hle:l5 fc call) (F:RF) (fn:Func) (hn:fn.ntmps≤F.N) (b:Code) (fuel:Nat) (args:List AV) (h:aC) (rc:RC):
 BOk E fn.results.toList ((Ye E F fn.ntmps fn b).run fuel fc args h rc) (pK E call fuel fn b args h rc):=by
 show BOk E _ (bc (Nat.ble (ku args) fn.ntmps)
  (fo (fun r h' y=> .fin ((CV E F fn.ntmps fn.results.toList).f r) h' y) (fun e r h' y=>my.rec (motive:=fun _=>BO) .bad (fun _=> .bad) (.fin ((CV E F fn.ntmps fn.results.toList).f r) h' y) (fun v=> .pan v ((CV E F fn.ntmps fn.results.toList).f r) h' y) e) .bad
   ((oZ E F fn.ntmps b).run fuel fc (WY F args F.z 0) h ⟨[],rc⟩)) .bad) _
 cases hl:Nat.ble (ku args) fn.ntmps with
 | false=>trivial
 | true=>
   have hl:=hD hl
   rw[ie] at hl
   have:=nh (E:=E) hn hle b fuel (WY F args F.z 0) h ⟨[],rc⟩
   rw[S4 F fn.ntmps hn args hl] at this
   rw[kQ]
   unfold pK
   cases hr:(oZ E F fn.ntmps b).run fuel fc (WY F args F.z 0) h ⟨[],rc⟩ with
   | bad=>trivial
   | NK r h' y=>
     rw[hr] at this
     exact ⟨.normal,_,.inl rfl,this,fun Tc vs e=>Bb _ r Tc vs e⟩
   | jmp e r h' y=>
     rw[hr] at this
     obtain ⟨h1,h2⟩:=this
     cases e with
     | normal=>exact absurd rfl h1
     | exit _=>trivial
     | ret=>exact ⟨.ret,_,.inr rfl,h2,fun Tc vs e=>Bb _ r Tc vs e⟩
     | panic v=>exact ⟨_,h2,fun Tc vs e=>Bb _ r Tc vs e⟩
theorem N4 {fc call:bu} (hle:l5 fc call) (f:FuncId) (fuel:Nat) (args:List AV) (h:aC) (rc:RC):
 (DP E f).run fuel fc args h rc= .bad∨∃fn b,E.P.funcs[f]? =some fn∧fn.body=some b∧BOk E fn.results.toList ((DP E f).run fuel fc args h rc) (pK E call fuel fn b args h rc):=by
 unfold DP
 rw[acb]
 cases hf:E.P.funcs[f]? with
 | none=>exact .inl rfl
 | some fn=>
   simp only
   cases hb:fn.body with
   | none=>exact .inl rfl
   | some b=>
     refine .inr ⟨fn,b,rfl,hb,?_⟩
     simp only
     cases h1:Nat.ble fn.ntmps 64 with
     | true=>exact N3 hle rf2 fn (hD h1) b fuel args h rc
     | false=>cases h2:Nat.ble fn.ntmps 512 with
       | true=>exact N3 hle rf3 fn (hD h2) b fuel args h rc
       | false=>trivial
theorem wB {fc call:bu} (hle:l5 fc call) {fuel:Nat} {c:Code} {s:St} {e:my} {s':St} (h:Tf E fc fuel c s= .ok e s'):exec E call fuel c s= .ok e s':=by
 have key:∀F:RF,s.ts.length≤F.N→Te E F fc fuel c s= .ok e s'→exec E call fuel c s= .ok e s':=by
  intro F hn hx
  have:=nh (E:=E) hn hle c fuel (WY F s.ts F.z 0) s.h ⟨s.ds,s.rc⟩
  rw[S4 F s.ts.length hn s.ts (Nat.le_refl _),Nat.sub_self,List.replicate_zero,List.append_nil] at this
  unfold Te at hx
  cases hr:(oZ E F s.ts.length c).run fuel fc (WY F s.ts F.z 0) s.h ⟨s.ds,s.rc⟩ with
  | bad=>rw[hr] at hx;cases hx
  | NK r h' y=>rw[hr] at hx this;rw[show exec E call fuel c s=_ from this];exact hx
  | jmp e' r h' y=>rw[hr] at hx this;rw[show exec E call fuel c s=_ from this.2];exact hx
 unfold Tf at h
 cases h1:Nat.ble s.ts.length 64 with
 | true=>rw[h1] at h;exact key rf2 (hD h1) h
 | false=>cases h2:Nat.ble s.ts.length 512 with
   | true=>rw[h1,h2] at h;exact key rf3 (hD h2) h
   | false=>rw[h1,h2] at h;cases h
noncomputable def La (E:Env) (call:bu) (fuel:Nat) (g:FuncId) (as:List AV) (h:aC) (rc:RC):Option (aC×RC):=match E.P.funcs[g]? with
 | none=>none
 | some fg=>match fg.body with
   | none=>none
   | some bg=>match pK E call fuel fg bg as h rc with
     | .ok .normal s'=>if s'.ds.isEmpty&&(mF E s'.h s'.ts fg.results.toList).isSome then some (s'.h,s'.rc) else none
     | .ok .ret s'=>if s'.ds.isEmpty&&(mF E s'.h s'.ts fg.results.toList).isSome then some (s'.h,s'.rc) else none
     | _=>none
theorem YE {fc call:bu} (hle:l5 fc call) {fuel:Nat} {g:FuncId} {as:List AV} {h:aC} {rc:RC} {p:aC×RC} (e:jG E fc fuel g as h rc=some p):La E call fuel g as h rc=some p:=by
 unfold jG at e
 rcases N4 (E:=E) hle g fuel as h rc with h1 | ⟨fn,b,h1,h2,h3⟩
 · rw[h1] at e;cases e
 · unfold La
   rw[h1];simp only;rw[h2];simp only
   cases hr:(DP E g).run fuel fc as h rc with
   | bad=>rw[hr] at e;cases e
   | pan v res h' y=>rw[hr] at e;cases e
   | fin res h' y=>
     rw[hr] at e h3
     obtain ⟨x,ts,h4,h5,h6⟩:=h3
     obtain ⟨h7,e1⟩:=ig (show bc y.ds.isEmpty (ob none (fun _=>some (h',y.rc)) (res h')) none=some p from e)
     obtain ⟨vs,h8,e2⟩:=iS e1
     rw[h5]
     rcases h4 with rfl | rfl
     · simp only[h7,h6 h' vs h8,Option.isSome_some,Bool.and_self,if_true];exact e2
     · simp only[h7,h6 h' vs h8,Option.isSome_some,Bool.and_self,if_true];exact e2
theorem ni {f g:FuncId→List AV→aC→RC→Option (aC×RC)} (hfg:∀k as h rc p,f k as h rc=some p→g k as h rc=some p):∀(ds:List tG) (p:Option AV) (h:aC) {q:Option AV×aC},dI f ds p h=some q→dI g ds p h=some q
 | [],p,h,q,e=>by cases p<;>exact e
 | .col r::ds,p,h,q,e=>by
   rw[dI] at e ⊢
   split at e
   · exact ni hfg ds p _ e
   · cases e
 | .call k as::ds,none,h,q,e=>by
   rw[dI] at e ⊢
   cases hf:f k as h .no with
   | none=>rw[hf] at e;cases e
   | some p=>rw[hf] at e;rw[hfg _ _ _ _ _ hf];obtain ⟨h',rc'⟩:=p;exact ni hfg ds none h' e
 | .call k as::ds,some v,h,q,e=>by
   rw[dI] at e ⊢
   cases hf:f k as h (.ks v) with
   | none=>rw[hf] at e;cases e
   | some p=>
     rw[hf] at e;rw[hfg _ _ _ _ _ hf];obtain ⟨h',rc'⟩:=p
     cases rc' with
     | ks w=>exact ni hfg ds _ h' e
     | done=>exact ni hfg ds _ h' e
     | _=>cases e
theorem Vn {fc call:bu} (hle:l5 fc call) (fuel:Nat) (l:Nat) (args:List AV) (h:aC):(∀v h',F' E fc fuel l args h= .ret v h'→zu E call fuel l args h= .ret v h')∧∀v h',F' E fc fuel l args h= .panic v h'→zu E call fuel l args h= .panic v h':=by
 have key:∀out:lV,(∀why o,out≠ .fail why o)→F' E fc fuel l args h=out→zu E call fuel l args h=out:=by
  intro out sw e
  unfold F' at e
  unfold zu
  split at e
  case h_2=>exact absurd e.symm (sw _ _)
  rename_i st pd ts ps as bd dn hg
  rw[hg]
  simp only
  by_cases ha:args.length=ps.length
  · rw[if_pos ha] at e ⊢
    split at e
    · rename_i s1 h1
      rw[wB hle h1]
      simp only
      split at e
      · rename_i pd ts2 ps2 as2 bd2 dn2 hg2
        rw[hg2]
        simp only
        split at e
        · rename_i s2 h2;rw[wB hle h2];exact e
        · rename_i s2 h2;rw[wB hle h2];exact e
        · rename_i id s2 h2;rw[wB hle h2];exact e
        · rename_i v s2 h2;rw[wB hle h2];exact e
        · exact absurd e.symm (sw _ _)
      · exact absurd e.symm (sw _ _)
    · exact absurd e.symm (sw _ _)
    · exact absurd e.symm (sw _ _)
  · rw[if_neg ha] at e;exact absurd e.symm (sw _ _)
 exact ⟨fun v h' e=>key _ (by simp) e,fun v h' e=>key _ (by simp) e⟩
noncomputable def YF (E:Env) (call:bu) (fuel:Nat) (fn:Func) (p:Option AV) (s:St):lV:=match dI (La E call fuel) s.ds p s.h with
 | none=> .fail "unwind" none
 | some (some v,h')=> .panic v h'
 | some (none,h')=>match mF E h' s.ts fn.results.toList with
   | some vs=> .ret (jF vs) h'
   | none=> .fail "results" none
theorem QU (d fuel:Nat) {f:FuncId} {fn:Func} {b:Code} (hf:E.P.funcs[f]? =some fn) (hb:fn.body=some b) (args:List AV) (h:aC):
 iP E (d+1) fuel (.fn f) args h=(match pK E (iP E d fuel) fuel fn b args h .no with
  | .ok .normal s=>YF E (iP E d fuel) fuel fn none s
  | .ok .ret s=>YF E (iP E d fuel) fuel fn none s
  | .ok (.panic v) s=>YF E (iP E d fuel) fuel fn (some v) s
  | .ok (.exit _) _=> .fail "exit" none
  | .fail why o=> .fail (why++ " in " ++fn.name) o):=by
 rw[iP]
 simp only[hf,hb]
 rfl
theorem Tp {fc call:bu} (hle:l5 fc call) {fuel:Nat} {fn:Func} {p:Option AV} {res:aC→Option (List AV)} {ts:List AV} {h:aC} {y:Y} (Ir:∀h' vs,res h'=some vs→mF E h' ts fn.results.toList=some vs) {out:lV} (ho:∀why o,out≠ .fail why o)
 (e:NQ (p.elim (ob (.fail "results" none) (fun vs=>lV.ret (jF vs) h) (res h)) (fun v=> .panic v h)) (QN E fc fuel p res h y.ds) y.ds=out):YF E call fuel fn p ⟨ts,h,y.ds,y.rc⟩=out:=by
 unfold YF
 cases hd:y.ds with
 | nil=>
   rw[hd] at e
   cases p with
   | some v=>exact e
   | none=>
     have e:ob (.fail "results" none) (fun vs=>lV.ret (jF vs) h) (res h)=out:=e
     cases hr:res h with
     | none=>rw[hr] at e;exact absurd e.symm (ho _ _)
     | some vs=>
       rw[hr] at e
       simp only[dI,Ir h vs hr]
       exact e
 | cons d ds=>
   rw[hd] at e
   have e:QN E fc fuel p res h (d::ds)=out:=e
   unfold QN at e
   cases hu:dI (jG E fc fuel) (d::ds) p h with
   | none=>rw[hu] at e;exact absurd e.symm (ho _ _)
   | some q=>
     rw[hu] at e
     have:=ni (g:=La E call fuel) (fun k as h rc p e=>YE hle e) (d::ds) p h hu
     simp only[this]
     obtain ⟨q1,h'⟩:=q
     cases q1 with
     | some v=>exact e
     | none=>
       have e:ob (.fail "results" none) (fun vs=>lV.ret (jF vs) h') (res h')=out:=e
       cases hr:res h' with
       | none=>rw[hr] at e;exact absurd e.symm (ho _ _)
       | some vs=>rw[hr] at e;simp only[Ir h' vs hr];exact e
theorem N5 (fuel:Nat):∀d,l5 (DQ E d fuel) (iP E d fuel)
 | 0=>fun _ _ _=>⟨fun _ _ e=>(by cases e),fun _ _ e=>(by cases e)⟩
 | d+1=>by
   have ih:=N5 fuel d
   intro g args h
   cases g with
   | DA l=>exact Vn ih fuel l args h
   | fn f=>
     have key:∀out:lV,(∀why o,out≠ .fail why o)→DQ E (d+1) fuel (.fn f) args h=out→iP E (d+1) fuel (.fn f) args h=out:=by
      intro out ho e
      have e:bo (fun res h' y=>NQ (ob (.fail "results" none) (fun vs=>lV.ret (jF vs) h') (res h')) (QN E (DQ E d fuel) fuel none res h' y.ds) y.ds)
       (fun v res h' y=>NQ (.panic v h') (QN E (DQ E d fuel) fuel (some v) res h' y.ds) y.ds) (.fail "body" none) ((DP E f).run fuel (DQ E d fuel) args h .no)=out:=e
      rcases N4 (E:=E) ih f fuel args h .no with h1 | ⟨fn,b,h1,h2,h3⟩
      · rw[h1] at e;exact absurd e.symm (ho _ _)
      · rw[QU d fuel h1 h2]
        cases hr:(DP E f).run fuel (DQ E d fuel) args h .no with
        | bad=>rw[hr] at e;exact absurd e.symm (ho _ _)
        | fin res h' y=>
          rw[hr] at e h3
          obtain ⟨x,ts,h4,h5,h6⟩:=h3
          have:=Tp (E:=E) ih (fn:=fn) (p:=none) h6 ho e
          rw[h5]
          rcases h4 with rfl | rfl<;>exact this
        | pan v res h' y=>
          rw[hr] at e h3
          obtain ⟨ts,h5,h6⟩:=h3
          have:=Tp (E:=E) ih (fn:=fn) (p:=some v) h6 ho e
          rw[h5];exact this
     exact ⟨fun v h' e=>key _ (by simp) e,fun v h' e=>key _ (by simp) e⟩
theorem Gk {d fuel:Nat} {f:FuncId} {args:List AV} {h h':aC} {v:AV} (e:DQ E d fuel (.fn f) args h= .ret v h'):iP E d fuel (.fn f) args h= .ret v h':=
 (N5 fuel d _ _ _).1 v h' e
end Go.Ab.Fa
end
section
namespace Go.Ab
structure anV (P:Program) (f:FuncId) (e:Array Value→Sem Value):Prop where
 at':∃fn,P.funcs[f]? =some fn∧(fn.name== "runtime.NumGoroutine")=false∧fn.body.isNone=true∧Extern.findNext fn=none∧Extern.find fn=some e
section
open Fa
end
open Fa
end Go.Ab
end
section
namespace Go.Ab
open Go.Maps Go.WideElems Go.RowKit Go.Proofs
section
open Fa
end
open Fa
end Go.Ab
end
section
namespace Go.Ab
structure Tab where
 g:Nat
 k:IntKind
 ns:List Nat
 t:TypeId
def Tab.cells (x:Tab):List AV:=x.ns.map fun n=>AV.int x.k (Int.ofNat n)
noncomputable def nj (G:Nat):List Tab→aC
 | []=>⟨HT.nil,G,fun _=>none⟩
 | x::xs=>(nj G xs).put x.g (some (.cells x.cells x.t true))
theorem Tq (i:Nat) (G:Nat):(aC.mk HT.nil G fun _=>none).get i=none:=by
 by_cases hi:i<262144
 · rw[aC.zv hi]
   rw[FB hi,Cv,FA]
   simp only[HT.nil,EY]
 · rw[aC.tJ hi]
theorem CZ (G:Nat):∀l,(nj G l).nx=G
 | []=>rfl
 | _::xs=>CZ G xs
theorem uh {G:Nat}:∀{l:List Tab} {i:Nat} {o:aM},(nj G l).get i=some o→∃x∈l,x.g=i∧o= .cells x.cells x.t true
 | [],i,o,e=>by rw[nj,Tq] at e;cases e
 | x::xs,i,o,e=>by
   rw[nj] at e
   by_cases h:x.g=i
   · subst h
     rw[aC.dP] at e
     exact ⟨x,by simp,rfl,(Option.some.inj e).symm⟩
   · rw[aC.cu h] at e
     obtain ⟨y,hy,h1,h2⟩:=uh e
     exact ⟨y,by simp [hy],h1,h2⟩
def aje (w:World) (x:Tab):Prop:=∃C e fz,w.heap[x.g]? =some (.cells C e fz)∧C.toList=x.ns.map fun n=>Value.int x.k (Int.ofNat n)
def phG (G:Nat):Ph:=fun i=>if i<G then some ⟨i,0,0⟩ else none
theorem OK.begin {E:Env} {w:World} {l:List Tab} (hl:∀x∈l,x.g<E.G∧aje w x):OK E (phG E.G) (nj E.G l) w:=by
 refine ⟨fun i l' h=>?_,?_,fun g hg=>?_,fun i o l' h1 h2=>?_,fun i j o p l' m _ _ h3 h4 _ h5=>?_⟩
 · unfold phG at h;rw[CZ];split at h
   · assumption
   · cases h
 · rw[CZ];exact Nat.le_refl _
 · unfold phG;rw[if_pos hg]
 · obtain ⟨x,hx,rfl,rfl⟩:=uh h1
   obtain ⟨hg,C,e,⟨lo,hi⟩,hw,hC⟩:=hl x hx
   unfold phG at h2;rw[if_pos hg] at h2
   obtain rfl:=Option.some.inj h2
   refine ⟨C,e,lo,hi,hw,?_,?_,(fun h=>by cases h),fun _ _ _=>rfl⟩
   · have:C.size=x.ns.length:=by rw[←Array.length_toList,hC,List.length_map]
     simp [Tab.cells,g_,this]
   · intro k y hk
     simp only[Tab.cells,List.getElem?_map,Option.map_eq_some_iff] at hk
     obtain ⟨n,hn,rfl⟩:=hk
     refine ⟨.int x.k (Int.ofNat n),?_,.int _ _⟩
     rw[Nat.zero_add,←Array.getElem?_toList,hC,List.getElem?_map,hn];rfl
 · unfold phG at h3 h4
   split at h3
   · split at h4
     · obtain rfl:=Option.some.inj h3
       obtain rfl:=Option.some.inj h4
       exact h5
     · cases h4
   · cases h3
end Go.Ab
end
section
namespace Go.Ab
variable {E:Env}
noncomputable def yf (E:Env) (call:bu) (fuel:Nat) (fn:Func) (p:Option AV) (s:St):lV:=match dI (jG E call fuel) s.ds p s.h with
 | none=> .fail "unwind" none
 | some (some v,h')=> .panic v h'
 | some (none,h')=>match mF E h' s.ts fn.results.toList with
   | some vs=> .ret (jF vs) h'
   | none=> .fail "results" none
noncomputable def DU (E:Env) (call:bu) (fuel:Nat) (f:FuncId) (args:List AV) (h:aC):lV:=match E.P.funcs[f]? with
 | none=> .fail "no function" none
 | some fn=>match fn.body with
   | none=> .fail ("no body " ++fn.name) none
   | some b=>match pK E call fuel fn b args h .no with
     | .ok .normal s=>yf E call fuel fn none s
     | .ok .ret s=>yf E call fuel fn none s
     | .ok (.panic v) s=>yf E call fuel fn (some v) s
     | .ok (.exit _) _=> .fail "exit" none
     | .fail why o=> .fail (why++ " in " ++fn.name) o
theorem rG (hE:me E) (fuel:Nat) {call:bu} (ih:jI E call):(∀f args h v h',DU E call fuel f args h= .ret v h'→m_ E f args h v h')∧(∀f args h v h',DU E call fuel f args h= .panic v h'→SW E f args h v h'):=by
 have key:∀(f:FuncId) (args:List AV) (h:aC) (out:lV),DU E call fuel f args h=out→(∀why q,out≠ .fail why q)→
  ∃fn c e s p,E.P.funcs[f]? =some fn∧fn.body=some c∧pK E call fuel fn c args h .no= .ok e s∧
   ((p=none∧(e= .normal∨e= .ret))∨∃v,p=some v∧e= .panic v)∧
   ((∃v h',out= .panic v h'∧dI (jG E call fuel) s.ds p s.h=some (some v,h'))∨
    ∃vs h',out= .ret (jF vs) h'∧dI (jG E call fuel) s.ds p s.h=some (none,h')∧mF E h' s.ts fn.results.toList=some vs):=by
  intro f args h out e f'
  unfold DU at e
  split at e
  · exact absurd e.symm (f' _ _)
  rename_i fn hf
  split at e
  · exact absurd e.symm (f' _ _)
  rename_i c hb
  have fin:∀(p:Option AV) (s:St),yf E call fuel fn p s=out→
   ((∃v h',out= .panic v h'∧dI (jG E call fuel) s.ds p s.h=some (some v,h'))∨
    ∃vs h',out= .ret (jF vs) h'∧dI (jG E call fuel) s.ds p s.h=some (none,h')∧mF E h' s.ts fn.results.toList=some vs):=by
   intro p s hm
   unfold yf at hm
   split at hm
   · exact absurd hm.symm (f' _ _)
   · rename_i v h' hu;exact .inl ⟨v,h',hm.symm,hu⟩
   · rename_i h' hu
     split at hm
     · rename_i vs hv;exact .inr ⟨vs,h',hm.symm,hu,hv⟩
     · exact absurd hm.symm (f' _ _)
  split at e
  · rename_i s iI;exact ⟨fn,c,_,s,none,hf,hb,iI,.inl ⟨rfl,.inl rfl⟩,fin none s e⟩
  · rename_i s iI;exact ⟨fn,c,_,s,none,hf,hb,iI,.inl ⟨rfl,.inr rfl⟩,fin none s e⟩
  · rename_i v s iI;exact ⟨fn,c,_,s,some v,hf,hb,iI,.inr ⟨v,rfl,rfl⟩,fin (some v) s e⟩
  · exact absurd e.symm (f' _ _)
  · exact absurd e.symm (f' _ _)
 have run:∀(f:FuncId) (fn:Func) (c:Code) (args:List AV) (h:aC) (e:my) (s:St) (p p':Option AV) (h':aC),E.P.funcs[f]? =some fn→fn.body=some c→pK E call fuel fn c args h .no= .ok e s→
  ((p=none∧(e= .normal∨e= .ret))∨∃v,p=some v∧e= .panic v)→dI (jG E call fuel) s.ds p s.h=some (p',h')→
  ∀(φ:Ph) (w:World) (vs:List Value),OK E φ h w→LR φ args vs→∀cs,∃φ' w' m' tmps todo,OK E φ' h' w'∧Fr φ h w φ' h' w'∧LR φ' s.ts tmps.toList∧
   ((p'=none∧m'= .returning)∨∃v v',p'=some v∧VR φ' v v'∧m'= .panicking [{v:=v',recovered:=false}])∧
   Steps E.P (lone (Frame.enter E.P f vs.toArray .normal) cs w) (lone {(bare f .normal).atR {tmps,defers:=[]} todo with mode:=m'} cs w'):=by
  intro f fn c args h e s p p' h' hf hb iI hp hu φ w vs ok hl cs
  obtain ⟨φ1,w1,a1,e1,x1,x2,x3,x4,x5,x6⟩:=(wi hE ih hf hb iI ok hl (kind:= .normal) (K:=fun _=>cs) ⟨rfl,fun fr hk=>by simp [tryRecover,show fr.kind= .normal from hk]⟩).is
  have Nw:cur (fun _=>cs) s.rc=cs:=by cases s.rc<;>rfl
  have XS:cur (fun _=>cs) RC.no=cs:=rfl
  rw[Nw] at x6
  rw[XS] at x6
  have hm:∃todo m,((p=none∧m= .returning)∨∃v v',p=some v∧VR φ1 v v'∧m= .panicking [{v:=v',recovered:=false}])∧
   Steps E.P (lone (Frame.enter E.P f vs.toArray .normal) cs w) (lone {(bare f .normal).atR a1 todo with mode:=m} cs w1):=by
   rcases hp with ⟨rfl,rfl | rfl⟩ | ⟨v,rfl,rfl⟩
   · cases x1;exact ⟨[],.returning,.inl ⟨rfl,rfl⟩,Steps.trans x6 (.one (stepR_end rfl))⟩
   · cases x1;obtain ⟨todo,hs⟩:=x6;exact ⟨_,.returning,.inl ⟨rfl,rfl⟩,Steps.trans hs (.one (stepR_ret rfl))⟩
   · cases x1 with
     | panic _ v' hv=>obtain ⟨todo,hs⟩:=x6;exact ⟨todo,_,.inr ⟨v,v',rfl,hv,rfl⟩,hs⟩
  obtain ⟨todo,m,hmp,vO⟩:=hm
  obtain ⟨φ2,w2,m2,FZ,f2,XR,hs2⟩:=lF hE ih s.ds hu (fr:={(bare f .normal).atR a1 todo with mode:=m}) (cs:=cs) x3 x2.ds (by
   rcases hmp with ⟨e,em⟩ | ⟨v,v',e,hv,em⟩
   · exact .inl ⟨e,em⟩
   · exact .inr ⟨v,v',e,hv,em⟩)
  exact ⟨φ2,w2,m2,a1.tmps,todo,FZ,x4.trans f2,x2.ts.mono f2.ext,XR,Steps.trans vO hs2⟩
 refine ⟨fun f args h v h' e=>?_,fun f args h v h' e=>?_⟩
 · obtain ⟨fn,c,e1,s,p,hf,hb,iI,hp,sw⟩:=key f args h _ e (by simp)
   rcases sw with ⟨v1,h1,he,_⟩ | ⟨vs1,h1,he,hu,Ir⟩
   · simp at he
   · simp at he;obtain ⟨rfl,rfl⟩:=he
     intro φ w vs ok hl
     refine ⟨enters hE hf hb _ w,fun cs=>?_⟩
     obtain ⟨φ',w',m',tmps,todo,vf,fr,ht,hm,hs⟩:=run f fn c args h e1 s p none h' hf hb iI hp hu φ w vs ok hl cs
     obtain ⟨v',hv,ju⟩:=wh vf ht Ir
     rcases hm with ⟨_,rfl⟩ | ⟨v,v'',e,_⟩
     · exact ⟨φ',w',v',_,hv,vf,fr,hs,rfl,rfl,rfl,rfl,fn,hf,ju⟩
     · simp at e
 · obtain ⟨fn,c,e1,s,p,hf,hb,iI,hp,sw⟩:=key f args h _ e (by simp)
   rcases sw with ⟨v1,h1,he,hu⟩ | ⟨vs1,h1,he,_⟩
   · simp at he;obtain ⟨rfl,rfl⟩:=he
     intro φ w vs ok hl
     refine ⟨enters hE hf hb _ w,fun cs=>?_⟩
     obtain ⟨φ',w',m',tmps,todo,vf,fr,ht,hm,hs⟩:=run f fn c args h e1 s p (some v) h' hf hb iI hp hu φ w vs ok hl cs
     rcases hm with ⟨e,_⟩ | ⟨v2,v',e,hv,rfl⟩
     · simp at e
     · simp at e;subst e
       exact ⟨φ',w',v',_,hv,vf,fr,hs,rfl,rfl,rfl,fn,hf⟩
   · simp at he
namespace Fa
abbrev N6:=FuncId→List AV→aC→Option (AV×aC)
def Lb (E:Env) (M:N6):Prop:=∀f args h v h',M f args h=some (v,h')→m_ E f args h v h'
noncomputable def N7 (nx:Nat) (l:List (Nat×aM)):aC:=List.rec (motive:=fun _=>aC) ⟨HT.nil,nx,fun _=>none⟩ (fun x _ h=>h.put x.1 (some x.2)) l
theorem Jz {nx:Nat}:∀{l:List (Nat×aM)} {i:Nat} {o:aM},(N7 nx l).get i=some o→(i,o)∈l
 | [],i,o,e=>by
   have e:(aC.mk HT.nil nx fun _=>none).get i=some o:=e
   by_cases hi:i<262144
   · rw[aC.zv hi] at e
     have e:(hp i).get HT.nil=some o:=e
     rw[FB hi,Cv,FA] at e
     simp only[HT.nil,EY] at e
     cases e
   · rw[aC.tJ hi] at e;cases e
 | x::xs,i,o,e=>by
   have e:((N7 nx xs).put x.1 (some x.2)).get i=some o:=e
   by_cases h:x.1=i
   · subst h
     rw[aC.dP] at e
     cases e;simp
   · rw[aC.cu h] at e
     exact List.mem_cons_of_mem _ (Jz e)
structure Ent where
 f:FuncId
 args:List AV
 nx:Nat
 K:List (Nat×aM)
 v:AV
 nx':Nat
 K':List (Nat×aM)
end Fa
end Go.Ab
end
section
namespace Go.Ab
variable {E:Env}
theorem LR.Bc {φ φ':Ph} {xs:List AV} {ys zs:List Value} (h:LR φ xs ys) (h':LR φ' xs zs) (ih:∀(i:Nat) (x:AV) (y z:Value),xs[i]? =some x→ys[i]? =some y→zs[i]? =some z→VR φ x z):LR φ xs zs:=by
 refine ⟨h'.1,fun i x z hx hz=>?_⟩
 have hi:i<xs.length:=(List.getElem?_eq_some_iff.1 hx).1
 have:i<ys.length:=by rw[←h.1];exact hi
 exact ih i x ys[i] z hx (by simp [this]) hz
theorem VR.back {φ φ':Ph} (hle:φ.le φ') {x:AV} {y:Value} (h:VR φ x y):∀{z:Value},VR φ' x z→VR φ x z:=by
 induction h with
 | bool b=>intro z h;cases h;exact .bool b
 | int k n=>intro z h;cases h;exact .int k n
 | str s=>
   intro z h
   generalize he:AV.str s.data.toList=q at h
   cases h with
   | str s'=>exact .str s'
   | _=>cases he
 | iG=>intro z h;cases h;exact .iG
 | ptr o h=>intro z h';cases h' with | ptr _ h'=>rw[hle _ _ h] at h';cases h';exact .ptr o h
 | aG=>intro z h;cases h;exact .aG
 | slice o len cap op h=>intro z h';cases h' with | slice _ _ _ _ h'=>rw[hle _ _ h] at h';cases h';exact .slice o len cap op h
 | fD a cap=>intro z h;cases h;exact .fD _ _
 | eZ=>intro z h;cases h;exact .eZ
 | map h=>intro z h';cases h' with | map h'=>rw[hle _ _ h] at h';cases h';exact .map h
 | func f a b a' b' la lb ha hb iha ihb=>
   intro z h
   obtain ⟨c,d,rfl,hc,hd⟩:=VR.Fy h
   have h1:LR φ a c.toList:=LR.Bc (ys:=a'.toList) ⟨by simpa using la,fun i x y p q=>ha i x y p (by simpa using q)⟩ hc fun i x y z p q r=>iha i x y p (by simpa using q) (hc.2 i x z p r)
   have h2:LR φ b d.toList:=LR.Bc (ys:=b'.toList) ⟨by simpa using lb,fun i x y p q=>hb i x y p (by simpa using q)⟩ hd fun i x y z p q r=>ihb i x y p (by simpa using q) (hd.2 i x z p r)
   have:=VR.Xc f h1 h2
   simpa using this
 | nilFunc=>intro z h;cases h;exact .nilFunc
 | yield h=>intro z h';cases h' with | yield h'=>rw[hle _ _ h] at h';cases h';exact .yield h
 | iface t v v' h ih=>intro z h';cases h' with | iface _ _ _ h'=>exact .iface t v _ (ih h')
 | nilIface=>intro z h;cases h;exact .nilIface
 | agg cs kr hl h ih=>
   intro z h'
   obtain ⟨d,rfl,hd⟩:=VR.lE h'
   have h1:LR φ cs d.toList:=LR.Bc (ys:=kr.toList) ⟨by simpa using hl,fun i x y p q=>h i x y p (by simpa using q)⟩ hd fun i x y z p q r=>ih i x y p (by simpa using q) (hd.2 i x z p r)
   have:=VR.UU h1
   simpa using this
 | any v h=>intro z h';cases h' with | any _ h'=>exact .any _ h'
 | tuple cs kr hl h ih=>
   intro z h'
   obtain ⟨d,rfl,hd⟩:=VR.Jc h'
   have h1:LR φ cs d.toList:=LR.Bc (ys:=kr.toList) ⟨by simpa using hl,fun i x y p q=>h i x y p (by simpa using q)⟩ hd fun i x y z p q r=>ih i x y p (by simpa using q) (hd.2 i x z p r)
   have:=VR.tuple' h1
   simpa using this
theorem LR.back {φ φ':Ph} (hle:φ.le φ') {xs:List AV} {ys zs:List Value} (h:LR φ xs ys) (h':LR φ' xs zs):LR φ xs zs:=
 LR.Bc h h' fun i x y z p q r=>(h.2 i x y p q).back hle (h'.2 i x z p r)
theorem OR.back {φ φ':Ph} (hle:φ.le φ') {o:aM} {l:Loc} {x z:Option Obj} (h:OR E φ o l x) (h':OR E φ' o l z):OR E φ o l z:=by
 cases o with
 | cells cs e ro=>
   obtain ⟨C,e1,lo,hi,_,hc⟩:=h
   obtain ⟨D,e2,Qj,MR,hz,hd⟩:=h'
   refine ⟨D,e2,Qj,MR,hz,hd.size,fun k x hk=>?_,hd.free,hd.zero⟩
   obtain ⟨y,_,hy⟩:=hc.val k x hk
   obtain ⟨y',h1,hy'⟩:=hd.val k x hk
   exact ⟨y',h1,hy.back hle hy'⟩
 | map es clock=>
   obtain ⟨_,es1,_,hl,hv⟩:=h
   obtain ⟨h0,es2,hz,hl',hv'⟩:=h'
   refine ⟨h0,es2,hz,hl',fun i x y hx hy=>?_⟩
   have hi:i<es.length:=(List.getElem?_eq_some_iff.1 hx).1
   have:i<es1.toList.length:=by rw[←hl];exact hi
   have a:=hv i x _ hx (List.getElem?_eq_getElem this)
   have b:=hv' i x y hx hy
   exact ⟨a.key.back hle b.key,a.val.back hle b.val,b.born⟩
 | yM s pos=>exact h'
 | Fu m since seen tF=>
   cases m with
   | none=>exact h'
   | some m=>
     obtain ⟨_,lm,hm,_⟩:=h
     obtain ⟨h0,lm',hm',hz⟩:=h'
     rw[hle _ _ hm] at hm';cases hm'
     exact ⟨h0,lm,hm,hz⟩
 | loop st pd ts ps as bd dn=>
   obtain ⟨_,r,_,hr⟩:=h
   obtain ⟨h0,r',hz,Xn⟩:=h'
   obtain ⟨ld,hd,_⟩:=hr.defers
   obtain ⟨ld',hd',P2⟩:=Xn.defers
   rw[hle _ _ hd] at hd';cases hd'
   exact ⟨h0,r',hz,Xn.state,Xn.pending,hr.tmps.back hle Xn.tmps,Xn.params,Xn.assign,Xn.body,⟨ld,hd,P2⟩,Xn.fn⟩
 | UR=>exact h'
def Has (h h':aC):Prop:=∀i o,h.get i=some o→h'.get i=some o
theorem Has.refl (h:aC):Has h h:=fun _ _ e=>e
theorem Has.trans {a b c:aC} (x:Has a b) (y:Has b c):Has a c:=fun i o e=>y i o (x i o e)
theorem OK.forget {φ φ':Ph} {h h':aC} {w w':World} (ok:OK E φ h w) (hle:φ.le φ') (vf:OK E φ' h' w') (hs:Has h h'):OK E φ h w' where
 E1:=ok.E1
 nx:=ok.nx
 AP:=ok.AP
 live i o l a b:=(ok.live i o l a b).back hle (vf.live i o l (hs i o a) (hle _ _ b))
 inj:=ok.inj
theorem Fr.forget {φ φ':Ph} {h h':aC} {w w':World} (f:Fr φ h w φ' h' w'):Fr φ h w φ h w' where
 ext:=Ph.le_refl φ
 old _ _:=rfl
 nx:=Nat.le_refl _
 os:=f.os
 tape:=f.tape
 output:=f.output
 size:=f.size
 Ie:=f.Ie
 own i o l a b c:= .inr ⟨i,o,l,a,b,c,rfl⟩
def AV.plain:Nat→AV→Bool
 | 0,_=>false
 | n+1,x=>match x with
   | .bool _ | .int .. | .str _ | .iG | .aG | .eZ | .nilFunc | .nilIface=>true
   | .iface _ v=>AV.plain n v
   | .agg cs=>cs.all (AV.plain n)
   | .tuple cs=>cs.all (AV.plain n)
   | _=>false
theorem VR.plain {φ φ':Ph}:∀(n:Nat) {x:AV} (_:AV.plain n x=true) {y:Value},VR φ' x y→VR φ x y
 | 0,_,h,_,_=>by cases h
 | n+1,x,h,y,hv=>by
   have ih:= @VR.plain φ φ' n
   cases hv with
   | bool b=>exact .bool b
   | int k m=>exact .int k m
   | str s=>exact .str s
   | iG=>exact .iG
   | aG=>exact .aG
   | eZ=>exact .eZ
   | nilFunc=>exact .nilFunc
   | nilIface=>exact .nilIface
   | iface t v v' h'=>exact .iface t v v' (ih (by simpa [AV.plain] using h) h')
   | agg cs kr hl hc=>
     refine .agg cs kr hl fun i x y a b=>ih ?_ (hc i x y a b)
     simp only[AV.plain,List.all_eq_true] at h
     exact h x (List.mem_of_getElem? a)
   | tuple cs kr hl hc=>
     refine .tuple cs kr hl fun i x y a b=>ih ?_ (hc i x y a b)
     simp only[AV.plain,List.all_eq_true] at h
     exact h x (List.mem_of_getElem? a)
   | _=>cases h
theorem m_.closed {f:FuncId} {args:List AV} {h':aC} {v:AV} (r:m_ E f args (Fa.N7 E.G []) v h') (ha:args.all (AV.plain 20)=true) (hv:AV.plain 20 v=true) (h:aC):m_ E f args h v h:=fun φ w vs ok hl=>by
 let φ0:Ph:=fun i=>if i<E.G then φ i else none
 have hle:φ0.le φ:=fun i l e=>by
  simp only[φ0] at e
  split at e
  · exact e
  · cases e
 have YG:∀{i o},(Fa.N7 E.G []).get i=some o→False:=fun e=>by cases Fa.Jz e
 have ok0:OK E φ0 (Fa.N7 E.G []) w:=by
  refine ⟨fun i l e=>?_,Nat.le_refl _,fun g hg=>?_,fun i o l e=>(YG e).elim,fun i j o p l m e=>(YG e).elim⟩
  · simp only[φ0] at e
    split at e
    · assumption
    · cases e
  · simp only[φ0,hg,if_true];exact ok.AP g hg
 have hl0:LR φ0 args vs:=⟨hl.1,fun i x y a b=>(hl.2 i x y a b).plain 20 (List.all_eq_true.1 ha x (List.mem_of_getElem? a))⟩
 obtain ⟨h1,h2⟩:=r φ0 w vs ok0 hl0
 refine ⟨h1,fun cs=>?_⟩
 obtain ⟨φ',w',v',fr,x1,x2,x3,x4⟩:=h2 cs
 have aeJ:∀b,b<w.heap.size→w'.heap[b]? =w.heap[b]? :=fun b hb=>x3.Ie b hb fun i o l e=>(YG e).elim
 refine ⟨φ,w',v',fr,x1.plain 20 hv,⟨ok.E1,ok.nx,ok.AP,fun i o l a b=>?_,ok.inj⟩,⟨Ph.le_refl φ,fun _ _=>rfl,Nat.le_refl _,x3.os,x3.tape,x3.output,x3.size,fun b hb _=>aeJ b hb,fun i o l a b c=> .inr ⟨i,o,l,a,b,c,rfl⟩⟩,x4⟩
 have hr:=ok.live i o l a b
 by_cases hb:l.iR<w.heap.size
 · rw[aeJ _ hb];exact hr
 · rw[Array.getElem?_eq_none (by omega)] at hr
   exact hr.absurd.elim
end Go.Ab
end
section
namespace Go.Ab
variable {E:Env} {call:bu} {n:Nat} {s:St}
def opK {α β:Type} (o:Option α) (f:α→β) (d:β):β:=match o with
 | some a=>f a
 | none=>d
noncomputable def QL (E:Env) (call:bu) (n:Nat) (o:Out) (b:Code):Out:=match o with
 | .ok .normal s=>exec E call n b s
 | r=>r
theorem DV (s:St) (b:Code):QL E call n (.ok .normal s) b=exec E call n b s:=rfl
def YH (id:Nat) (o:Out):Out:=match o with
 | .ok (.exit WR) s'=>if WR=id then .ok .normal s' else .ok (.exit WR) s'
 | r=>r
theorem DW (i j:Nat) (s:St):YH i (.ok (.exit j) s)=if j=i then .ok .normal s else .ok (.exit j) s:=rfl
noncomputable def YI (E:Env) (call:bu) (n:Nat) (o:Option AV) (a b:Code) (s:St):Out:=match o with
 | some (.bool true)=>exec E call n a s
 | some (.bool false)=>exec E call n b s
 | _=> .fail "cond" none
theorem QV (a b:Code):YI E call n (some (.bool true)) a b s=exec E call n a s:=rfl
theorem N8 (a b:Code):YI E call n (some (.bool false)) a b s=exec E call n b s:=rfl
theorem aeK (a b:Code):exec E call (n+1) (.seq a b) s=QL E call n (exec E call n a s) b:=rfl
theorem YJ (x:Operand) (a b:Code):exec E call (n+1) (.cond x a b) s=YI E call n (fK E s.ts x) a b s:=rfl
theorem Lc (id:Nat) (b:Code):exec E call (n+1) (.block id b) s=YH id (exec E call n b s):=rfl
theorem YK (b:Code):exec E call (n+1) (.loop b) s=QL E call n (exec E call n b s) (.loop b):=rfl
theorem YL (i:Nat) (ops:Array Oper):exec E call (n+1) (.region i ops false) s=oV E call ops ops.toList s:=rfl
theorem acJ (i:Nat) (ops:Array Oper):exec E call (n+1) (.region i ops true) s=DB E call ops s:=rfl
section
variable {ops:Array Oper} {rest:List Oper} {d:Option Tmp} {op:Op} {ty:TypeId} {pos:String} {aft:Array Edge} {g:Option (Nat×Bool)}
end
theorem mf (m:Nat) (a:List UInt8):AV.same (m+1) (.str a) (.str a)=true:=by simp [AV.same]
theorem aS (m:Nat) (k:IntKind) (a:Int):AV.same (m+1) (.int k a) (.int k a)=true:=by simp [AV.same]
theorem lH (m:Nat) (a:Bool):AV.same (m+1) (.bool a) (.bool a)=true:=by simp [AV.same]
theorem jv (m i o l c:Nat) (b:Bool):AV.same (m+1) (.slice i o l c b) (.slice i o l c b)=true:=by simp [AV.same]
open Classical in
section
variable {ops:Array Oper} {rest:List Nat} {d:Option Tmp} {op:Op} {ty:TypeId} {pos:String} {aft:Array Edge} {g:Option (Nat×Bool)}
end
theorem wrap_i64 {n:Int} (h0: -9223372036854775808≤n) (h1:n<9223372036854775808):IntKind.i64.wrap n=n:=by
 show (if (true&&decide (n%2^64≥2^63))=true then n%2^64 - 2^64 else n%2^64)=n
 by_cases hn:n%2^64≥2^63
 · rw[if_pos (by rw[Bool.true_and];exact decide_eq_true hn)];omega
 · rw[if_neg (by rw[Bool.true_and];exact fun e=>hn (of_decide_eq_true e))];omega
theorem Vo {fuel:Nat} {f:FuncId} {fn:Func} {c:Code} (hf:E.P.funcs[f]? =some fn) (hb:fn.body=some c) {args:List AV} {h h':aC} {ts:List AV} {x:my} (hx:x= .normal∨x= .ret)
 (e:exec E call fuel c ⟨args++List.replicate (fn.ntmps - args.length) AV.undef,h,[],.no⟩= .ok x ⟨ts,h',[],.no⟩) {vs:List AV} (hr:mF E h' ts fn.results.toList=some vs):DU E call fuel f args h= .ret (jF vs) h':=by
 unfold DU
 simp only[hf,hb,pK,e]
 rcases hx with rfl | rfl<;>simp only[yf,dI,hr]
def Gl (M:Fa.N6):bu:=fun F args h=>match F with
 | .fn f=>match M f args h with
   | some p=> .ret p.1 p.2
   | none=> .fail "" none
 | .DA _=> .fail "" none
theorem Vp {M:Fa.N6} (hM:Fa.Lb E M):jI E (Gl M):=by
 refine ⟨fun F args h v h' e=>?_,fun F args h v h' e=>?_⟩
 · cases F with
   | DA l=>cases e
   | fn f=>
     simp only[Gl] at e
     cases hm:M f args h with
     | none=>rw[hm] at e;cases e
     | some p=>
       rw[hm] at e
       simp only[lV.ret.injEq] at e
       obtain ⟨rfl,rfl⟩:=e
       exact (hM _ _ _ _ _ hm).any
 · cases F with
   | DA l=>cases e
   | fn f=>
     simp only[Gl] at e
     cases hm:M f args h with
     | none=>rw[hm] at e;cases e
     | some p=>rw[hm] at e;cases e
def alZ (E:Env) (x:Option (TypeId×Nat)) (v:Option AV):Option AV:=match x,v with
 | some (t,o),some (.ptr i off)=>match ca E t with
   | some n=>if n=0 then none else some (.ptr i (off+o))
   | none=>none
 | _,_=>none
def gQ (E:Env) (op:BinOp) (t:TypeId) (xc yc:Bool) (a b:Option AV):Option AV:=match a,b with
 | some a,some b=>nX E op t xc yc a b
 | _,_=>none
theorem acK {ts:List AV} (op:BinOp) (t t':TypeId) (x y:Operand):bC E ts (.binOp op t x y t')=gQ E op t (isConst x) (isConst y) (fK E ts x) (fK E ts y):=by
 simp only[bC,gQ]
 cases fK E ts x<;>cases fK E ts y<;>rfl
theorem acL (t:TypeId) (c d:Bool) (k:IntKind) (a b:Int):gQ E .add t c d (some (.int k a)) (some (.int k b))=some (.int k (k.wrap (a+b))):=by simp [gQ,nX,eh]
theorem acM (t:TypeId) (c d:Bool) (k:IntKind) (a b:Int):gQ E .sub t c d (some (.int k a)) (some (.int k b))=some (.int k (k.wrap (a - b))):=by simp [gQ,nX,eh]
theorem acN (t:TypeId) (c d:Bool) (k:IntKind) (a b:Int):gQ E .eql t c d (some (.int k a)) (some (.int k b))=some (.bool (decide (a=b))):=by simp [gQ,nX,eh];rfl
theorem acO (t:TypeId) (c d:Bool) (k:IntKind) (a b:Int):gQ E .neq t c d (some (.int k a)) (some (.int k b))=some (.bool (!decide (a=b))):=by simp [gQ,nX,eh];rfl
theorem acP (t:TypeId) (c d:Bool) (k:IntKind) (a b:Int):gQ E .lss t c d (some (.int k a)) (some (.int k b))=some (.bool (decide (a<b))):=by simp [gQ,nX,eh]
theorem acQ (t:TypeId) (c d:Bool) (k:IntKind) (a b:Int):gQ E .leq t c d (some (.int k a)) (some (.int k b))=some (.bool (decide (a≤b))):=by simp [gQ,nX,eh]
theorem acR (t:TypeId) (c d:Bool) (k:IntKind) (a b:Int):gQ E .gtr t c d (some (.int k a)) (some (.int k b))=some (.bool (decide (b<a))):=by simp [gQ,nX,eh]
theorem acS (t:TypeId) (c d:Bool) (k:IntKind) (a b:Int):gQ E .geq t c d (some (.int k a)) (some (.int k b))=some (.bool (decide (b≤a))):=by simp [gQ,nX,eh]
theorem YM (t:TypeId) (c d:Bool) (a b:List UInt8):gQ E .eql t c d (some (.str a)) (some (.str b))=some (.bool (decide (a=b))):=by
 simp only[gQ,nX,zr,Option.some.injEq,AV.bool.injEq]
 exact Bool.eq_iff_iff.2 (by simp)
def bO (E:Env) (d:Option TypeDesc) (v i:Option AV):Option AV:=match d,v,i with
 | some (.slice elem),some (.slice i o len _ _),some (.int _ n)=>match ca E elem with
  | some size=>if 0≤n∧n<len then some (.ptr i (o+n.toNat*size)) else none
  | none=>none
 | some (.array len elem),some (.ptr i o),some (.int _ n)=>match ca E elem with
  | some size=>if 0≤n∧n<len then some (.ptr i (o+n.toNat*size)) else none
  | none=>none
 | _,_,_=>none
theorem N9 {ts:List AV} (t:TypeId) (x i:Operand):bC E ts (.indexAddr t x i)=bO E (E.P.underlying t) (fK E ts x) (fK E ts i):=by
 simp only[bC,bO]
 split<;>simp_all<;>(split<;>simp_all)
theorem qO {e:TypeId} {i o len c z:Nat} {b:Bool} {size:Nat} (hs:ca E e=some size) (hz:z<len):bO E (some (.slice e)) (some (.slice i o len c b)) (some (.int .i64 (z:Int)))=some (.ptr i (o+z*size)):=by
 simp only[bO,hs]
 rw[if_pos ⟨by omega,by omega⟩,Int.toNat_natCast]
def cb (d:Option TypeDesc) (v:Option AV):Option AV:=match d,v with
 | some (.slice _),some .aG=>some (.int .i64 0)
 | some (.slice _),some (.slice _ _ n _ _)=>some (.int .i64 n)
 | some (.slice _),some .fD=>some (.int .i64 0)
 | some .string,some (.str s)=>some (.int .i64 s.length)
 | some (.array n _),some _=>some (.int .i64 n)
 | some (.map _ _),some .eZ=>some (.int .i64 0)
 | _,_=>none
theorem ajf {ts:List AV} (x:Operand) (t:TypeId):bC E ts (.call ⟨.builtin .len, #[x], #[t]⟩)=cb (E.P.underlying t) (fK E ts x):=by
 simp only[bC,iv,fE,List.getElem?_toArray,List.getElem?_cons_zero]
 generalize fK E ts x=o
 cases o with
 | none=>
   generalize E.P.underlying t=u
   cases u with
   | none=>rfl
   | some d=>cases d<;>rfl
 | some v=>
   simp only
   generalize E.P.underlying t=u
   cases u with
   | none=>rfl
   | some d=>cases d<;>cases v<;>rfl
theorem jJ {ts:List AV} {h:aC} (t:TypeId) (x:Operand):fp E ts h (.load t x)=opK (fK E ts x) (bh E h t) none:=by
 simp only[fp];cases fK E ts x<;>rfl
theorem kZ (e:TypeId) (i o n c:Nat) (b:Bool):cb (some (.slice e)) (some (.slice i o n c b))=some (.int .i64 n):=rfl
def Tidy (h:aC):Prop:=∀i o,h.get i=some o→i<h.nx
def zK (E:Env) (d:Option TypeDesc) (v i:Option AV):Option AV:=match d,v,i with
 | some (.array len elem),some (.agg cs),some (.int _ n)=>match ca E elem with
  | some size=>if 0≤n∧n<len then jW E elem cs (n.toNat*size) else none
  | none=>none
 | some .string,some (.str s),some (.int _ n)=>if 0≤n then (match s[n.toNat]? with | some b=>some (.int .u8 b.toNat) | none=>none) else none
 | _,_,_=>none
theorem acT {ts:List AV} (t:TypeId) (x i:Operand):bC E ts (.index t x i)=zK E (E.P.underlying t) (fK E ts x) (fK E ts i):=by
 simp only[bC,zK]
 split
 · simp_all
   split<;>simp_all
 · rename_i s k n _ _ _
   simp_all
   cases s[n.toNat]? <;>rfl
 · simp_all
theorem YN {s:List UInt8} {z:Nat} {b:UInt8} (h:s[z]? =some b):zK E (some .string) (some (.str s)) (some (.int .i64 (z:Int)))=some (.int .u8 b.toNat):=by
 simp only[zK]
 rw[if_pos (by omega),Int.toNat_natCast,h]
end Go.Ab
end
