import Derived.Laws.Externs
import Derived.Lib.Bytealg
import Derived.Maps.Own
import Derived.Maps.Range
import Derived.Sort.KeysCollected
import GoSem.ClaimChange
import Derived.OpenShut
import Derived.FnData
import Derived.ChangeArms
import Derived.Test.YtmbkbhleedecdaaGreatDoorA5
import Derived.Test.YtmbkbhleedecdaaGreatDoorA3
import Derived.Test.YtmbkbhleedecdaaGreatDoorA1
import Derived.Test.YtmbkbhleedecdaaGreatDoorA4
set_option linter.unusedVariables false
set_option linter.unusedSimpArgs false
section
namespace Go.Ab.Fa
variable {E:Env} {F:RF} {n:Nat}
theorem iN {ts:List AV} {x:Operand} {a:AV} (h:dA E ts x=some a):fO E ts [x]=some [a]:=by simp [fO,dL,h]
theorem DV {ts:List AV} {x y:Operand} {a b:AV} (h:dA E ts x=some a) (h':dA E ts y=some b):fO E ts [x,y]=some [a,b]:=by simp [fO,dL,h,h']
theorem TV (v:AV):ZX v=rQ v:=by
 cases v with
 | str s=>show some (iK s)=some s.length;rw[fI]
 | _=>rfl
theorem M9 {h:ax} {size m:Nat} {v:AV} {l:List AV} (e:Pd h size m v=some l):g_ h size m v=some l:=by
 cases v with
 | aX=>
   obtain ⟨h1,e1⟩:=fD (show bc (Nat.beq m 0) (some []) none=some l from e)
   simp only[g_];rw[if_pos (l7 h1)];exact e1
 | slice i o len c b=>
   obtain ⟨h1,e1⟩:=fD (show bc (Nat.ble m len) (ob none (fun obj=>yB (fun cs _ _=>bc (Nat.ble (o+m*size) (iK cs)) (some (sB (sA cs o) (m*size))) none) none obj) (h.get i)) none=some l from e)
   obtain ⟨obj,h2,e2⟩:=gE e1
   obtain ⟨cs,el,ro,rfl,e3⟩:=rf e2
   obtain ⟨h3,e4⟩:=fD e3
   have h1:=fE h1
   have h3:=fE h3
   rw[fI] at h3
   rw[qk,qj] at e4
   simp only[g_,h2]
   rw[if_pos h1]
   by_cases h0:m=0
   · subst h0
     rw[if_pos rfl]
     rw[Nat.zero_mul,List.take_zero] at e4
     exact e4
   · rw[if_neg h0,if_pos h3];exact e4
 | _=>exact e
theorem PG {h:ax} {obj:aK} {f:ax→AV×ax} {p:AV×ax} (e:ob none (fun h'=>some (f h')) (h.new obj)=some p):∃h',h.new obj=some h'∧p=f h':=by
 obtain ⟨h',h1,e1⟩:=gE e
 exact ⟨h',h1,(Option.some.inj e1).symm⟩
theorem TW {argTypes:Array TypeId} {sT xT elem:TypeId} {xd:TypeDesc} {size bytes:Nat} {z:AV} (h1:argTypes[0]? =some sT) (h2:argTypes[1]? =some xT) (h3:E.P.underlying sT=some (.slice elem)) (h4:E.P.underlying xT=some xd)
 (h5:pM xd=false) (h6:b_ E elem=some size) (h7:iu E elem=some bytes) (h8:gz E elem=some z) (h9:z.cells.length=size)
 {h:ax} {s x:AV} {p:AV×ax} (e:ZY elem size bytes h s x=some p):gq E h argTypes s x=some p:=by
 obtain ⟨m,a1,e1⟩:=gE e
 rw[TV] at a1
 obtain ⟨new,a2,e2⟩:=gE e1
 have a2:=M9 a2
 obtain ⟨a3,e3⟩:=fD e2
 obtain ⟨a4,e4⟩:=fD e3
 rw[qZ,HD] at a3
 have a4:=l7 a4
 rw[fI] at a4
 unfold gq
 simp only[h1,h2,h3,h4,h5,h6,h7,h8,a1,a2]
 rw[if_neg (by simp)]
 rw[if_pos ⟨h9,a3,a4⟩]
 rcases nP e4 with ⟨rfl,e5⟩ | ⟨i,o,len,cap,op,rfl,e5⟩
 · cases hm:Nat.beq m 0 with
   | true=>
     rw[hm,jb] at e5
     simp only;rw[if_pos (l7 hm)];exact e5
   | false=>
     rw[hm,dO] at e5
     obtain ⟨a5,e6⟩:=fD e5
     have a5:(4*m+4096)*(bytes+1)≤1099511627776:=fE a5
     obtain ⟨h',a6,rfl⟩:=PG e6
     simp only
     rw[if_neg (by intro ee;rw[ee] at hm;cases hm),if_pos a5]
     simp only[a6]
 · obtain ⟨obj,a5,e6⟩:=gE e5
   obtain ⟨cs,el,ro,rfl,e7⟩:=rf e6
   obtain ⟨a6,e8⟩:=re e7
   subst a6
   simp only[a5]
   cases hc:Nat.ble (Nat.add len m) cap with
   | true=>
     rw[hc,jb] at e8
     have hc:len+m≤cap:=fE hc
     obtain ⟨a7,e9⟩:=fD e8
     have a7:o+(len+m)*size≤iK cs:=fE a7
     rw[fI] at a7
     rw[if_pos hc,if_pos a7,←Option.some.inj e9,E8];rfl
   | false=>
     rw[hc,dO] at e8
     have hc:cap<len+m:=j6 hc
     obtain ⟨a7,e9⟩:=fD e8
     have a7:(4*(len+m)+4096)*(bytes+1)≤1099511627776:=fE a7
     obtain ⟨a8,e10⟩:=fD e9
     have a8:o+len*size≤iK cs:=fE a8
     rw[fI] at a8
     rw[if_neg (by omega)]
     cases op with
     | true=>
       rw[jb] at e10
       obtain ⟨a9,e11⟩:=fD e10
       obtain ⟨a10,e12⟩:=fD e11
       obtain ⟨a0,e12⟩:=fD e12
       have a0:o=0:=l7 a0
       have a9:=l7 a9
       have a10:o+cap*size=iK cs:=l7 a10
       rw[fI] at a10
       obtain ⟨h',Z5,rfl⟩:=PG e12
       rw[ng,qk,qj] at Z5
       rw[if_pos ⟨a7,a8,fun _=>⟨a9,a10,a0⟩⟩]
       rw[if_pos rfl]
       have W9:(h.put i none).new (.cells ((cs.drop o).take (len*size)++new) elem false)=some h':=Z5
       simp only[W9];rfl
     | false=>
       rw[dO] at e10
       obtain ⟨h',Z5,rfl⟩:=PG e10
       rw[ng,qk,qj] at Z5
       rw[if_pos ⟨a7,a8,fun hh=>by cases hh⟩]
       rw[if_neg (by simp)]
       have W9:h.new (.cells ((cs.drop o).take (len*size)++new) elem false)=some h':=Z5
       simp only[W9];rfl
theorem lx {b:Builtin} (h1:b≠ .len) (h2:b≠ .cap) (h3:b≠ .max) (h4:b≠ .min) (a:Array Operand) (t:Array TypeId):sG E (.call ⟨.builtin b,a,t⟩):=by
 cases b<;>first | exact absurd rfl h1 | exact absurd rfl h2 | exact absurd rfl h3 | exact absurd rfl h4 | exact ⟨fun _=>rfl,fun _ _=>rfl,fun _=>rfl⟩
theorem M_ (a:Array Operand) (t:Array TypeId):fQ E F n (.call ⟨.builtin .append,a,t⟩) (match a.toList with
 | [s,x]=>wO E F n s (fun gs=>wO E F n x (fun gx=>JT E t gs gx) .bad) .bad
 | _=> .bad):=by
 have nn:sG E (.call ⟨.builtin .append,a,t⟩):=lx (by simp) (by simp) (by simp) (by simp) a t
 generalize hl:a.toList=l
 match l with
 | []=>trivial
 | [_]=>trivial
 | _::_::_::_=>trivial
 | [s,x]=>
   simp only
   rcases bZ E F n s (fun gs=>wO E F n x (fun gx=>JT E t gs gx) .bad) (.bad:Kd F.T) with h | ⟨gs,h,hs⟩<;>rw[h]
   · trivial
   rcases bZ E F n x (fun gx=>JT E t gs gx) (.bad:Kd F.T) with h | ⟨gx,h,hx⟩<;>rw[h]
   · trivial
   unfold JT
   simp only[gJ,Array.getElem?_toList,iy,nU,Pr,yI]
   have fin:∀(f:F.T→ax→Option (AV×ax)),(∀r h p,f r h=some p→gq E h t (gs r) (gx r)=some p)→fQ E F n (.call ⟨.builtin .append,a,t⟩) (.wr f):=by
    intro f hf
    refine ⟨nn,fun call r h rc o p ho e=>?_⟩
    simp only[cZ,ho,hl,DV (hs r) (hx r),hf r h p e]
   cases h1:t[0]? with
   | none=>trivial
   | some sT=>cases h2:t[1]? with
     | none=>trivial
     | some xT=>
       simp only
       cases h3:E.P.underlying sT with
       | none=>trivial
       | some sd=>cases h4:E.P.underlying xT with
         | none=>cases sd<;>trivial
         | some xd=>cases sd with
           | slice elem=>
             simp only
             cases h5:pM xd with
             | true=>
               rw[if_pos rfl]
               apply fin
               intro r h p e
               unfold gq
               simp only[h1,h2,h3,h4,h5]
               rw[if_pos trivial];exact e
             | false=>
               rw[if_neg (by simp)]
               cases h6:b_ E elem with
               | none=>trivial
               | some size=>cases h7:iu E elem with
                 | none=>trivial
                 | some bytes=>cases h8:gz E elem with
                   | none=>trivial
                   | some z=>
                     simp only
                     by_cases h9:z.cells.length=size
                     · rw[if_pos h9]
                       exact fin _ fun r h p e=>TW h1 h2 h3 h4 h5 h6 h7 h8 h9 e
                     · rw[if_neg h9];trivial
           | _=>trivial
theorem LQ (a:Array Operand) (t:Array TypeId):fQ E F n (.call ⟨.builtin .copy,a,t⟩) (match a.toList with
 | [s,x]=>wO E F n s (fun gs=>wO E F n x (fun gx=> .wr fun r h=>uZ E h t (gs r) (gx r)) .bad) .bad
 | _=> .bad):=by
 have nn:sG E (.call ⟨.builtin .copy,a,t⟩):=lx (by simp) (by simp) (by simp) (by simp) a t
 generalize hl:a.toList=l
 match l with
 | []=>trivial
 | [_]=>trivial
 | _::_::_::_=>trivial
 | [s,x]=>
   simp only
   rcases bZ E F n s (fun gs=>wO E F n x (fun gx=>(.wr fun r h=>uZ E h t (gs r) (gx r):Kd F.T)) .bad) (.bad:Kd F.T) with h | ⟨gs,h,hs⟩<;>rw[h]
   · trivial
   rcases bZ E F n x (fun gx=>(.wr fun r h=>uZ E h t (gs r) (gx r):Kd F.T)) (.bad:Kd F.T) with h | ⟨gx,h,hx⟩<;>rw[h]
   · trivial
   refine ⟨nn,fun call r h rc o p ho e=>?_⟩
   simp only[cZ,ho,hl,DV (hs r) (hx r),e]
theorem J1 (a:Array Operand) (t:Array TypeId):fQ E F n (.call ⟨.builtin .recover,a,t⟩) (.uF fun _ _ h rc=>match rc with
 | .iJ x=> .rK x
 | .Gp _=> .fail "" none
 | _=> .val .nilIface h):=by
 refine ⟨lx (by simp) (by simp) (by simp) (by simp) a t,fun fc call _ r h rc o ho=>?_⟩
 simp only[cZ,ho]
 cases rc<;>first | trivial | rfl
theorem W_ (a:Array Operand) (t:Array TypeId):fQ E F n (.call ⟨.builtin .len,a,t⟩) (match iL t.toList 0,a.toList with
 | some t,[x]=>wO E F n x (fun g=>match jM E.P t with
   | some .string=> .gG fun r=>qW (fun s=>some (.int .i64 (Int.ofNat (iK s)))) none (g r)
   | some (.array m _)=> .gG fun _=>some (.int .i64 (Int.ofNat m))
   | some (.slice _)=> .gG fun r=>jq (some (.int .i64 (Int.ofNat 0))) (fun _ _ m _ _=>some (.int .i64 (Int.ofNat m))) (vZ (some (.int .i64 (Int.ofNat 0))) none (g r)) (g r)
   | some (.map _ _)=> .red fun r h=>Lw h (g r)
   | _=> .bad) .bad
 | _,_=> .bad):=by
 rw[gJ,Array.getElem?_toList]
 cases ht:t[0]? with
 | none=>trivial
 | some tt=>
   generalize hl:a.toList=l
   match l with
   | []=>trivial
   | _::_::_=>trivial
   | [x]=>
     simp only[iy]
     rcases bZ E F n x (fun g=>match E.P.underlying tt with
      | some .string=>(.gG fun r=>qW (fun s=>some (.int .i64 (Int.ofNat (iK s)))) none (g r):Kd F.T)
      | some (.array m _)=> .gG fun _=>some (.int .i64 (Int.ofNat m))
      | some (.slice _)=> .gG fun r=>jq (some (.int .i64 (Int.ofNat 0))) (fun _ _ m _ _=>some (.int .i64 (Int.ofNat m))) (vZ (some (.int .i64 (Int.ofNat 0))) none (g r)) (g r)
      | some (.map _ _)=> .red fun r h=>Lw h (g r)
      | _=> .bad) .bad with h | ⟨g,h,hg⟩<;>rw[h]
     · trivial
     cases hu:E.P.underlying tt with
     | none=>trivial
     | some d=>cases d with
       | string=>
         intro r v e
         obtain ⟨s,e1,e2⟩:=nO e
         simp only[bp,ht,hl,iN (hg r),hu,e1]
         rw[←e2,fI];rfl
       | array m el=>
         intro r v e
         simp only[bp,ht,hl,iN (hg r),hu]
         exact e
       | slice el=>
         intro r v e
         rcases HC e with ⟨e1,e2⟩ | ⟨i,o,l,c,b,e1,e2⟩ | ⟨e1,e2⟩
         · simp only[bp,ht,hl,iN (hg r),hu,e1];exact e2
         · simp only[bp,ht,hl,iN (hg r),hu,e1];exact e2
         · simp only[bp,ht,hl,iN (hg r),hu,e1];exact e2
       | map key el=>
         intro r h v e
         have e:Lw h (g r)=some v:=e
         generalize hm:g r=m at e
         cases m with
         | dw=>exact .inl (by simp only[bp,ht,hl,iN (hg r),hu,hm];exact e)
         | map i=>
           refine .inr ⟨by simp only[bp,ht,hl,iN (hg r),hu,hm],?_⟩
           obtain ⟨o,h3,h4⟩:=gE (show ob none (fun o=>Tz (fun es=>some (AV.int .i64 (Int.ofNat (iK es)))) none o) (h.get i)=some v from e)
           cases o with
           | map es c=>
             have h4:some (AV.int .i64 (Int.ofNat (iK es)))=some v:=h4
             simp only[dE,ht,hl,iN (hg r),hu,hm,h3]
             rw[←h4,fI];rfl
           | _=>cases h4
         | _=>cases e
       | _=>trivial
theorem Xa (a:Array Operand) (t:Array TypeId):fQ E F n (.call ⟨.builtin .cap,a,t⟩) (match iL t.toList 0,a.toList with
 | some t,[x]=>wO E F n x (fun g=>match jM E.P t with
   | some (.slice _)=> .gG fun r=>jq (some (.int .i64 (Int.ofNat 0))) (fun _ _ _ c b=>bc b none (some (.int .i64 (Int.ofNat c)))) none (g r)
   | _=> .bad) .bad
 | _,_=> .bad):=by
 rw[gJ,Array.getElem?_toList]
 cases ht:t[0]? with
 | none=>trivial
 | some tt=>
   generalize hl:a.toList=l
   match l with
   | []=>trivial
   | _::_::_=>trivial
   | [x]=>
     simp only[iy]
     rcases bZ E F n x (fun g=>match E.P.underlying tt with
      | some (.slice _)=>(.gG fun r=>jq (some (.int .i64 (Int.ofNat 0))) (fun _ _ _ c b=>bc b none (some (.int .i64 (Int.ofNat c)))) none (g r):Kd F.T)
      | _=> .bad) .bad with h | ⟨g,h,hg⟩<;>rw[h]
     · trivial
     cases hu:E.P.underlying tt with
     | none=>trivial
     | some d=>cases d with
       | slice el=>
         intro r v e
         rcases nP e with ⟨e1,e2⟩ | ⟨i,o,l,c,b,e1,e2⟩
         · simp only[bp,ht,hl,iN (hg r),hu,e1];exact e2
         · obtain ⟨rfl,e3⟩:=re e2
           simp only[bp,ht,hl,iN (hg r),hu,e1];exact e3
       | _=>trivial
theorem M' (f:FuncId) (a:Array Operand) (t:Array TypeId):fQ E F n (.call ⟨.value (.func f),a,t⟩) (wL E F n a.toList (fun gs=>match E.mi f with
 | some e=> .gG fun r=>e (gs r)
 | none=>match E.ir f with
   | some g=> .wr fun r h=>g (gs r) h
   | none=> .call (.fn f) gs) .bad):=by
 rcases uk E F n a.toList (fun gs=>match E.mi f with
  | some e=>(.gG fun r=>e (gs r):Kd F.T)
  | none=>match E.ir f with
    | some g=> .wr fun r h=>g (gs r) h
    | none=> .call (.fn f) gs) .bad with h | ⟨gs,h,hg⟩<;>rw[h]
 · trivial
 cases hp:E.mi f with
 | some e=>
   intro r v h
   simp only[bp,hp,hg];exact h
 | none=>
   have nn:sG E (.call ⟨.value (.func f),a,t⟩):=⟨fun _=>by simp only[bp,hp],fun _ _=>rfl,fun _=>rfl⟩
   have hc:∀r,callee E (eV F n r) ⟨.value (.func f),a,t⟩=some (.fn f,gs r):=by
    intro r
    simp only[callee,hg,dA]
    simp
   cases hs:E.ir f with
   | some g=>
     refine ⟨nn,fun call r h rc o p ho e=>?_⟩
     have e':g (gs r) h=some p:=e
     simp only[cZ,ho,hc,jH,hs,e']
   | none=>
     refine ⟨nn,fun call r h rc o ho=>?_⟩
     simp only[cZ,ho,hc,jH,hs]
     cases call (.fn f) (gs r) h<;>rfl
theorem Bi {a b:iQ} (h1:∀v h',a= .ret v h'→b= .ret v h') (h2:∀v h',a= .panic v h'→b= .panic v h'):VC (mB a) (mB b):=by
 cases a with
 | ret v h=>rw[h1 v h rfl];rfl
 | panic v h=>rw[h2 v h rfl];rfl
 | fail _ _=>trivial
theorem vz (x:Operand) (hx:∀f,x≠ .func f) (a:Array Operand) (t:Array TypeId):fQ E F n (.call ⟨.value x,a,t⟩) (wO E F n x (fun gf=>wL E F n a.toList (fun gs=> .uF fun call r h _=>Lt
 (fun g first captured=>ob (mB (call (.fn g) (lf first (lf (gs r) captured)) h)) (fun sp=>ob (.fail "" none) (fun p=> .val p.1 p.2) (sp (lf first (lf (gs r) captured)) h)) (E.ir g))
 (fun l=>mB (call (.ze l) (gs r) h)) (.fail "" none) (gf r)) .bad) .bad):=by
 have nn:sG E (.call ⟨.value x,a,t⟩):=by
  cases x with
  | func f=>exact absurd rfl (hx f)
  | _=>exact ⟨fun _=>rfl,fun _ _=>rfl,fun _=>rfl⟩
 let K:(F.T→AV)→(F.T→List AV)→Kd F.T:=fun gf gs=> .uF fun call r h _=>Lt
  (fun g first captured=>ob (mB (call (.fn g) (lf first (lf (gs r) captured)) h)) (fun sp=>ob (.fail "" none) (fun p=> .val p.1 p.2) (sp (lf first (lf (gs r) captured)) h)) (E.ir g))
  (fun l=>mB (call (.ze l) (gs r) h)) (.fail "" none) (gf r)
 show fQ E F n _ (wO E F n x (fun gf=>wL E F n a.toList (fun gs=>K gf gs) .bad) .bad)
 rcases bZ E F n x (fun gf=>wL E F n a.toList (fun gs=>K gf gs) .bad) .bad with h | ⟨gf,h,hf⟩<;>rw[h]
 · trivial
 rcases uk E F n a.toList (fun gs=>K gf gs) .bad with h | ⟨gs,h,hg⟩<;>rw[h]
 · trivial
 refine ⟨nn,fun fc call hle r h rc o ho=>?_⟩
 have ec:∀R,callee E (eV F n r) ⟨.value x,a,t⟩=R→cZ E call (eV F n r) h rc o=(match R with
  | some (f,args)=>match jH E f with
    | some g=>(match g args h with | some (x,h')=> .val x h' | none=> .fail "eff" (some o))
    | none=>mB (call f args h)
  | none=> .fail "callee" (some o)):=by
  intro R hR
  simp only[cZ,ho,hR]
  cases R with
  | none=>rfl
  | some p=>
    obtain ⟨f,args⟩:=p
    simp only
    cases jH E f with
    | none=>simp only;cases call f args h<;>rfl
    | some g=>rfl
 show VC (Lt _ _ _ (gf r)) _
 cases hv:gf r with
 | func g first captured=>
   have hc:callee E (eV F n r) ⟨.value x,a,t⟩=some (.fn g,first++gs r++captured):=by
    simp only[callee,hf,hg,hv]
   rw[ec _ hc]
   have ha:lf first (lf (gs r) captured)=first++gs r++captured:=by rw[ng,ng,List.append_assoc]
   show VC (ob (mB (fc (.fn g) (lf first (lf (gs r) captured)) h)) (fun sp=>ob (.fail "" none) (fun p=> .val p.1 p.2) (sp (lf first (lf (gs r) captured)) h)) (E.ir g)) _
   rw[ha]
   simp only[jH]
   cases hs:E.ir g with
   | none=>exact Bi (hle _ _ _).1 (hle _ _ _).2
   | some sp=>
     show VC (ob (.fail "" none) (fun p=> .val p.1 p.2) (sp (first++gs r++captured) h)) _
     simp only
     cases sp (first++gs r++captured) h with
     | none=>trivial
     | some p=>rfl
 | sc l=>
   have hc:callee E (eV F n r) ⟨.value x,a,t⟩=some (.ze l,gs r):=by
    simp only[callee,hf,hg,hv]
   rw[ec _ hc]
   simp only[jH]
   exact Bi (hle _ _ _).1 (hle _ _ _).2
 | _=>trivial
theorem Na (x:Operand) (name:String) (a:Array Operand) (t:Array TypeId):fQ E F n (.call ⟨.invoke x name,a,t⟩) (wO E F n x (fun gx=>wL E F n a.toList (fun gs=> .uF fun call r h _=>qX
 (fun t v=>ob (.fail "" none) (fun f=>mB (call (.fn f) (v::gs r) h)) (Hz E t name)) (.fail "" none) (gx r)) .bad) .bad):=by
 have nn:sG E (.call ⟨.invoke x name,a,t⟩):=⟨fun _=>rfl,fun _ _=>rfl,fun _=>rfl⟩
 let K:(F.T→AV)→(F.T→List AV)→Kd F.T:=fun gx gs=> .uF fun call r h _=>qX
  (fun t v=>ob (.fail "" none) (fun f=>mB (call (.fn f) (v::gs r) h)) (Hz E t name)) (.fail "" none) (gx r)
 show fQ E F n _ (wO E F n x (fun gx=>wL E F n a.toList (fun gs=>K gx gs) .bad) .bad)
 rcases bZ E F n x (fun gx=>wL E F n a.toList (fun gs=>K gx gs) .bad) .bad with h | ⟨gx,h,hx⟩<;>rw[h]
 · trivial
 rcases uk E F n a.toList (fun gs=>K gx gs) .bad with h | ⟨gs,h,hg⟩<;>rw[h]
 · trivial
 refine ⟨nn,fun fc call hle r h rc o ho=>?_⟩
 show VC (qX _ _ (gx r)) _
 cases hv:gx r with
 | iface u v=>
   show VC (ob (.fail "" none) (fun f=>mB (fc (.fn f) (v::gs r) h)) (Hz E u name)) _
   cases hm:Hz E u name with
   | none=>trivial
   | some f=>
     have Xb:wc E u name=some f:=hm
     have ec:cZ E call (eV F n r) h rc o=mB (call (.fn f) (v::gs r) h):=by
      simp only[cZ,ho,hx,hg,hv,Xb]
      cases call (.fn f) (v::gs r) h<;>rfl
     rw[ec]
     exact Bi (hle _ _ _).1 (hle _ _ _).2
 | _=>trivial
theorem PH (c:Call):fQ E F n (.call c) (Vz E F n c (.call c)):=by
 obtain ⟨cT,a,t⟩:=c
 cases cT with
 | value x=>cases x with
   | func f=>exact M' f a t
   | tmp x=>exact vz (.tmp x) (by simp) a t
   | const x=>exact vz (.const x) (by simp) a t
   | global x=>exact vz (.global x) (by simp) a t
 | invoke r m=>exact Na r m a t
 | builtin b=>cases b with
   | append=>exact M_ a t
   | copy=>exact LQ a t
   | recover=>exact J1 a t
   | len=>exact W_ a t
   | cap=>exact Xa a t
   | max=>exact fun r v e=>e
   | min=>exact fun r v e=>e
   | _=>trivial
theorem HL (op:Op):fQ E F n op (vd E F n op):=by
 cases op with
 | move x=>
   show fQ E F n _ (wO E F n x .Gr .bad)
   rcases bZ E F n x .Gr (.bad:Kd F.T) with h | ⟨g,h,hg⟩<;>rw[h]
   · trivial
   · exact hg
 | assign x=>
   show fQ E F n _ (wO E F n x .Gr .bad)
   rcases bZ E F n x .Gr (.bad:Kd F.T) with h | ⟨g,h,hg⟩<;>rw[h]
   · trivial
   · exact hg
 | pick c a b=>exact TR c a b
 | binOp op t x y yt=>
   show fQ E F n _ (wO E F n x (fun gx=>wO E F n y (fun gy=>bu op (jG E op t (isConst x) (isConst y)) gx gy) .bad) .bad)
   rcases bZ E F n x (fun gx=>wO E F n y (fun gy=>bu op (jG E op t (isConst x) (isConst y)) gx gy) .bad) (.bad:Kd F.T) with h | ⟨gx,h,hx⟩<;>rw[h]
   · trivial
   rcases bZ E F n y (fun gy=>bu op (jG E op t (isConst x) (isConst y)) gx gy) (.bad:Kd F.T) with h | ⟨gy,h,hy⟩<;>rw[h]
   · trivial
   exact TP op t x y yt gx gy hx hy
 | unOp op t x=>
   show fQ E F n _ (wO E F n x (ZW op) .bad)
   rcases bZ E F n x (ZW op) (.bad:Kd F.T) with h | ⟨g,h,hg⟩<;>rw[h]
   · trivial
   exact W3 op t x g hg
 | fieldAddr s x f=>exact E_ s x f
 | load t a=>exact TQ t a
 | store t a x=>exact PA t a x
 | nilCheck x=>exact HF x
 | extract x i=>exact JZ x i
 | field s x f=>exact Px s x f
 | indexAddr t x ix=>exact E' t x ix
 | index t x ix=>exact Py t x ix
 | slice t x lo hi mx=>cases mx with
   | none=>exact Pz t x lo hi
   | some m=>exact fun r v e=>e
 | convert s d x=>exact J0 s d x
 | makeInterface t x=>exact yJ t x
 | makeFunc f a b=>cases f with
   | func f=>exact HI f a b
   | _=>trivial
 | alloc t=>exact PB t
 | box t x=>exact W8 t x
 | buildSlice t len parts=>exact Di t len parts
 | makeSlice t l c=>exact Ff t l c
 | makeMap t r=>cases r with
   | none=>exact ⟨fun _=>rfl,fun _ _=>rfl,fun r p e=>e⟩
   | some x=>exact ⟨fun _=>rfl,fun _ _=>rfl,fun r p e=>e⟩
 | range t x=>exact ⟨fun _=>rfl,fun _ _=>rfl,fun r p e=>e⟩
 | lookup t x ix ok=>exact M7 t x ix ok
 | build t parts=>exact PD t parts
 | typeAssert x a b ok=>exact fun r v e=>e
 | mapUpdate t m k x=>exact Fl t m k x
 | insert t m k x=>exact M8 t m k x
 | next it s=>exact TU it s
 | panic x=>exact PE x
 | defer c=>exact PF c
 | call c=>exact PH c
 | _=>trivial
end Go.Ab.Fa
end
section
namespace Go.Ab.Fa
variable {E:Env} {F:RF} {n:Nat}
def rW (_E:Env) (F:RF) (n:Nat) (o:FO F.T) (out:Out):Prop:=match o with
 | .Hw r h y=>out= .ok .normal ⟨eV F n r,h,y.ds,y.rc⟩
 | .jmp e r h y=>e≠ .normal∧out= .ok e ⟨eV F n r,h,y.ds,y.rc⟩
 | .bad=>True
theorem Fm {call:a_} {s:St} {o:Oper} {v:AV} (h:bp E s.ts o.op=some v):En E call s o= .ok .normal {s with ts:=dB s.ts o.dst v}:=by
 simp only[En,h]
theorem TX {call:a_} {s:St} {o:Oper} {v:AV} (h0:bp E s.ts o.op=none) (h:dE E s.ts s.h o.op=some v):En E call s o= .ok .normal {s with ts:=dB s.ts o.dst v}:=by
 simp only[En,h0,h]
theorem Fo {call:a_} {s:St} {o:Oper} (nn:sG E o.op):En E call s o=(match cZ E call s.ts s.h s.rc o with
 | .val v h'=> .ok .normal {s with ts:=dB s.ts o.dst v,h:=h'}
 | .defer d=> .ok .normal {s with ts:=dB s.ts o.dst AV.undef,ds:=d::s.ds}
 | .rK v=> .ok .normal {s with ts:=dB s.ts o.dst v,rc:= .done}
 | .panic v h'=> .ok (.panic v) {s with h:=h'}
 | .fail why q=> .fail why q):=by
 simp only[En,nn.1,nn.2.1,nn.2.2]
 generalize cZ E call s.ts s.h s.rc o=x
 cases x<;>rfl
noncomputable def Z6 (E:Env) (call:a_) (ops:Array Oper) (rest:List Oper) (out:Out):Out:=match out with
 | .ok .normal s'=>j1 E call ops rest s'
 | r=>r
theorem TY {ops:Array Oper} {o:Oper} {rest:List Oper} {kd:Kd F.T} {s:AV→F.T→F.T} {j:I F.T} {fc call:a_} (hle:j7 fc call) (hk:fQ E F n o.op kd)
 (hs:∀v r,dB (eV F n r) o.dst v=eV F n (s v r)) (hj:∀r h y,rW E F n (j.run fc r h y) (j1 E call ops rest ⟨eV F n r,h,y.ds,y.rc⟩)) (r:F.T) (h:ax) (y:Y):
 rW E F n ((JU kd s j).run fc r h y) (Z6 E call ops rest (En E call ⟨eV F n r,h,y.ds,y.rc⟩ o)):=by
 cases kd with
 | Gr g=>
   rw[Fm (s:=⟨eV F n r,h,y.ds,y.rc⟩) (hk r)]
   show rW E F n (j.run fc (s (g r) r) h y) (j1 E call ops rest ⟨dB (eV F n r) o.dst (g r),h,y.ds,y.rc⟩)
   rw[hs];exact hj _ _ _
 | gG f=>
   show rW E F n (ob .bad (fun v=>j.run fc (s v r) h y) (f r)) _
   cases hf:f r with
   | none=>trivial
   | some v=>
     rw[Fm (s:=⟨eV F n r,h,y.ds,y.rc⟩) (hk r v hf)]
     show rW E F n (j.run fc (s v r) h y) (j1 E call ops rest ⟨dB (eV F n r) o.dst v,h,y.ds,y.rc⟩)
     rw[hs];exact hj _ _ _
 | red f=>
   show rW E F n (ob .bad (fun v=>j.run fc (s v r) h y) (f r h)) _
   cases hf:f r h with
   | none=>trivial
   | some v=>
     rcases hk r h v hf with h0 | ⟨h0,h1⟩
     · rw[Fm (s:=⟨eV F n r,h,y.ds,y.rc⟩) h0]
       show rW E F n (j.run fc (s v r) h y) (j1 E call ops rest ⟨dB (eV F n r) o.dst v,h,y.ds,y.rc⟩)
       rw[hs];exact hj _ _ _
     rw[TX (s:=⟨eV F n r,h,y.ds,y.rc⟩) h0 h1]
     show rW E F n (j.run fc (s v r) h y) (j1 E call ops rest ⟨dB (eV F n r) o.dst v,h,y.ds,y.rc⟩)
     rw[hs];exact hj _ _ _
 | sg f=>
   obtain ⟨h0,h1,h2⟩:=hk
   show rW E F n (ob .bad (fun p=>ob .bad (fun h'=>j.run fc (s (p.2 h.nx) r) h' y) (h.new p.1)) (f r)) _
   cases hf:f r with
   | none=>trivial
   | some p=>
     obtain ⟨obj,mk⟩:=p
     show rW E F n (ob .bad (fun h'=>j.run fc (s (mk h.nx) r) h' y) (h.new obj)) _
     cases hh:h.new obj with
     | none=>trivial
     | some h'=>
       have:En E call ⟨eV F n r,h,y.ds,y.rc⟩ o= .ok .normal ⟨dB (eV F n r) o.dst (mk h.nx),h',y.ds,y.rc⟩:=by
        simp only[En,h0,h1,h2 r _ hf,hh]
       rw[this,hs];exact hj _ _ _
 | wr f=>
   obtain ⟨nn,h1⟩:=hk
   show rW E F n (ob .bad (fun p=>j.run fc (s p.1 r) p.2 y) (f r h)) _
   cases hf:f r h with
   | none=>trivial
   | some p=>
     rw[Fo nn,h1 call r h y.rc o p rfl hf]
     show rW E F n (j.run fc (s p.1 r) p.2 y) (j1 E call ops rest ⟨dB (eV F n r) o.dst p.1,p.2,y.ds,y.rc⟩)
     rw[hs];exact hj _ _ _
 | call g args=>
   obtain ⟨nn,h1⟩:=hk
   rw[Fo nn,h1 call r h y.rc o rfl]
   show rW E F n (iQ.rec (motive:=fun _=>FO F.T) (fun v h'=>j.run fc (s v r) h' y) (fun v h'=> .jmp (.panic v) r h' y) (fun _ _=> .bad) (fc g (args r) h)) _
   cases hc:fc g (args r) h with
   | fail _ _=>trivial
   | ret v h'=>
     rw[(hle _ _ _).1 v h' hc]
     show rW E F n (j.run fc (s v r) h' y) (j1 E call ops rest ⟨dB (eV F n r) o.dst v,h',y.ds,y.rc⟩)
     rw[hs];exact hj _ _ _
   | panic v h'=>
     rw[(hle _ _ _).2 v h' hc]
     exact ⟨by simp,rfl⟩
 | uF f=>
   obtain ⟨nn,h1⟩:=hk
   rw[Fo nn]
   have h2:=h1 fc call hle r h y.rc o rfl
   show rW E F n (yh.rec (motive:=fun _=>FO F.T) (fun v h'=>j.run fc (s v r) h' y) (fun d=>j.run fc (s AV.undef r) h ⟨d::y.ds,y.rc⟩) (fun v=>j.run fc (s v r) h ⟨y.ds,.done⟩)
    (fun v h'=> .jmp (.panic v) r h' y) (fun _ _=> .bad) (f fc r h y.rc)) _
   cases he:f fc r h y.rc with
   | fail _ _=>trivial
   | val v h'=>
     rw[he] at h2
     have h2:cZ E call (eV F n r) h y.rc o= .val v h':=h2
     rw[h2]
     show rW E F n (j.run fc (s v r) h' y) (j1 E call ops rest ⟨dB (eV F n r) o.dst v,h',y.ds,y.rc⟩)
     rw[hs];exact hj _ _ _
   | defer d=>
     rw[he] at h2
     have h2:cZ E call (eV F n r) h y.rc o= .defer d:=h2
     rw[h2]
     show rW E F n (j.run fc (s AV.undef r) h ⟨d::y.ds,y.rc⟩) (j1 E call ops rest ⟨dB (eV F n r) o.dst AV.undef,h,d::y.ds,y.rc⟩)
     rw[hs];exact hj _ _ ⟨d::y.ds,y.rc⟩
   | rK v=>
     rw[he] at h2
     have h2:cZ E call (eV F n r) h y.rc o= .rK v:=h2
     rw[h2]
     show rW E F n (j.run fc (s v r) h ⟨y.ds,.done⟩) (j1 E call ops rest ⟨dB (eV F n r) o.dst v,h,y.ds,.done⟩)
     rw[hs];exact hj _ _ ⟨y.ds,.done⟩
   | panic v h'=>
     rw[he] at h2
     have h2:cZ E call (eV F n r) h y.rc o= .panic v h':=h2
     rw[h2]
     exact ⟨by simp,rfl⟩
 | bad=>trivial
def yK (ts:List AV) (d:Nat) (want:Bool):Bool:=match ts[d]? with
 | some (.bool b)=>b==want
 | _=>false
theorem zv {ts:List AV} {d:Nat} (h:ts.length≤d) (want:Bool):yK ts d want=false:=by
 unfold yK;rw[List.getElem?_eq_none h]
theorem zw {ts:List AV} {d:Nat} {v:AV} (h:ts[d]? =some v) (want:Bool):yK ts d want=jo (fun b=>b==want) false v:=by
 unfold yK;rw[h];cases v<;>rfl
theorem wJ (ops:Array Oper) (ts:List AV) (o:Oper) {j:Nat} {want:Bool} (hg:o.guard=some (j,want)):cm ops ts o=(match (ops[j]?).bind (·.dst) with
 | some d=>match ts[d]? with
   | some (.bool b)=>b==want
   | _=>false
 | none=>false):=by simp only[cm,hg];rfl
theorem PI (ops:Array Oper) (j:Nat):ob none (fun p=>p.dst) (iL ops.toList j)=(ops[j]?).bind (·.dst):=by
 rw[gJ,Array.getElem?_toList];cases ops[j]? <;>rfl
theorem PJ (_hn:n≤F.N) (ops:Array Oper) (o:Oper) (a b:I F.T) (call:a_) (r:F.T) (h:ax) (y:Y):
 (Lz F n ops o a b).run call r h y=bif cm ops (eV F n r) o then a.run call r h y else b.run call r h y:=by
 unfold Lz
 cases hg:o.guard with
 | none=>simp only[cm,hg];rfl
 | some p=>
   obtain ⟨j,want⟩:=p
   rw[wJ ops _ o hg]
   simp only[PI]
   cases (ops[j]?).bind (·.dst) with
   | none=>rfl
   | some d=>
     show (bc (Nat.ble n d) b (JV (F.get d).f want a b)).run call r h y=bif yK (eV F n r) d want then a.run call r h y else b.run call r h y
     cases hd:Nat.ble n d with
     | true=>
       rw[zv (by rw[iw];exact fE hd)];rfl
     | false=>
       rw[zw (ug F n r (j6 hd)),dO]
       cases want with
       | true=>
         show jo (fun t=>bc t (a.run call r h y) (b.run call r h y)) (b.run call r h y) ((F.get d).f r)=_
         cases (F.get d).f r with
         | bool t=>cases t<;>rfl
         | _=>rfl
       | false=>
         show jo (fun t=>bc t (b.run call r h y) (a.run call r h y)) (b.run call r h y) ((F.get d).f r)=_
         cases (F.get d).f r with
         | bool t=>cases t<;>rfl
         | _=>rfl
theorem HM (_hn:n≤F.N) (ops:Array Oper) (o:Oper) (a b:D F.T) (call:a_) (r:F.T) (h:ax) (y:Y):
 (zr F n ops o a b).run call r h y=bif cm ops (eV F n r) o then a.run call r h y else b.run call r h y:=by
 unfold zr
 cases hg:o.guard with
 | none=>simp only[cm,hg];rfl
 | some p=>
   obtain ⟨j,want⟩:=p
   rw[wJ ops _ o hg]
   simp only[PI]
   cases (ops[j]?).bind (·.dst) with
   | none=>rfl
   | some d=>
     show (bc (Nat.ble n d) b (Pg (F.get d).f want a b)).run call r h y=bif yK (eV F n r) d want then a.run call r h y else b.run call r h y
     cases hd:Nat.ble n d with
     | true=>
       rw[zv (by rw[iw];exact fE hd)];rfl
     | false=>
       rw[zw (ug F n r (j6 hd)),dO]
       cases want with
       | true=>
         show jo (fun t=>bc t (a.run call r h y) (b.run call r h y)) (b.run call r h y) ((F.get d).f r)=_
         cases (F.get d).f r with
         | bool t=>cases t<;>rfl
         | _=>rfl
       | false=>
         show jo (fun t=>bc t (b.run call r h y) (a.run call r h y)) (b.run call r h y) ((F.get d).f r)=_
         cases (F.get d).f r with
         | bool t=>cases t<;>rfl
         | _=>rfl
theorem Bj (hn:n≤F.N) {fc call:a_} (hle:j7 fc call) (ops:Array Oper):∀(l:List Oper) (r:F.T) (h:ax) (y:Y),
 rW E F n ((uj E F n ops l).run fc r h y) (j1 E call ops l ⟨eV F n r,h,y.ds,y.rc⟩)
 | [],r,h,y=>rfl
 | o::rest,r,h,y=>by
   have ih:=Bj hn hle ops rest
   show rW E F n ((Pe E F n ops o (uj E F n ops rest)).run fc r h y) _
   unfold Pe
   obtain ⟨s,h1,hs⟩:=LO F n hn o.dst (fun s=>Lz F n ops o (JU (vd E F n o.op) s (uj E F n ops rest)) (VA s (uj E F n ops rest)))
   rw[h1,PJ hn]
   rw[j1]
   cases hw:cm ops (eV F n r) o with
   | true=>
     rw[if_pos rfl]
     exact TY hle (HL o.op) hs ih r h y
   | false=>
     rw[if_neg (by simp)]
     show rW E F n ((uj E F n ops rest).run fc (s AV.undef r) h y) _
     simp only[hs]
     exact ih _ _ _
def madeOf:TK→Option Nat
 | .sg n _=>some n
 | _=>none
theorem wK (x:Step) (t:List Step):qK (x::t)=match madeOf x.kind with | none=>qK t | some i=>i::qK t:=by
 show List.filterMap (fun x:Step=>madeOf x.kind) (x::t)=_
 rw[List.filterMap_cons];cases madeOf x.kind<;>rfl
inductive ph (E:Env) (ops:Array Oper) (pl:bO):List M3→List Step→Prop
 | nil:ph E ops pl [] []
 | skip {x:Step} {c:List M3} {t:List Step} (hs:∀h,jm E ops x h=true) (hm:madeOf x.kind=none) (ht:ph E ops pl c t):ph E ops pl c (x::t)
 | TZ {x:Step} {c0:M3} {c:List M3} {t:List Step} (hk:c0.k=x.k) (hl:c0.m=j2 pl.bK pl.an x.i+1 - x.k) (hm:madeOf x.kind=c0.made)
  (hs:∀h,c0.f h=true→jm E ops x h=true) (ht:ph E ops pl c t):ph E ops pl (c0::c) (x::t)
theorem ph.made {ops:Array Oper} {pl:bO} {c:List M3} {t:List Step} (h:ph E ops pl c t):LD c=qK t:=by
 induction h with
 | nil=>rfl
 | skip hs hm ht ih=>rw[wK,hm];exact ih
 | TZ hk hl hm hs ht ih=>
   rename_i x c0 c t
   show ob (LD c) (fun i=>i::LD c) c0.made=_
   rw[wK,hm,ih]
   cases c0.made<;>rfl
theorem ph.all {ops:Array Oper} {pl:bO} {hs:List ax} {c:List M3} {t:List Step} (h:ph E ops pl c t) (e:c.all (fun x=>yC x.f (sB (sA hs x.k) x.m))=true):
 t.all (fun x=>((hs.drop x.k).take (j2 pl.bK pl.an x.i+1 - x.k)).all (jm E ops x))=true:=by
 induction h with
 | nil=>rfl
 | skip qO hm ht ih=>
   rw[List.all_cons,ih e,Bool.and_true,List.all_eq_true]
   intro h _;exact qO h
 | TZ hk hl hm qO ht ih=>
   rw[List.all_cons,Bool.and_eq_true] at e
   rw[List.all_cons,ih e.2,Bool.and_true,List.all_eq_true]
   have e1:=e.1
   rw[qZ,qk,qj,List.all_eq_true,hk,hl] at e1
   intro h hh;exact qO h (e1 h hh)
theorem Bk {ops:Array Oper} {pl:bO} {hs:List ax} {c:List M3} {t:List Step} (h:ph E ops pl c t) (e:rb c hs=true):qL E ops pl t hs=true:=by
 unfold rb at e
 rw[nN,Bool.and_eq_true,yF,qZ,h.made] at e
 unfold qL
 rw[Bool.and_eq_true]
 exact ⟨e.1,h.all e.2⟩
def C7 (E:Env) (F:RF) (n:Nat) (ops:Array Oper) (pl:bO) (d:DO F.T) (t:jI):Prop:=match d with
 | .ok tr hs r h y=>∃Jf,t= .ok Jf hs ⟨eV F n r,h,y.ds,y.rc⟩∧ph E ops pl tr Jf
 | .bad=>True
theorem C7.skip {ops:Array Oper} {pl:bO} {d:DO F.T} {t:jI} (h:C7 E F n ops pl d t) {x:Step} (hs:∀h,jm E ops x h=true) (hm:madeOf x.kind=none):C7 E F n ops pl d (t.step x):=by
 cases d with
 | bad=>trivial
 | ok tr qO r h' y=>
   obtain ⟨Jf,rfl,h2⟩:=h
   exact ⟨x::Jf,rfl,.skip hs hm h2⟩
theorem C7.bound {ops:Array Oper} {pl:bO} {d:DO F.T} {t:jI} (h:C7 E F n ops pl d t) (h0:ax):C7 E F n ops pl (ra h0 d) (t.bound h0):=by
 cases d with
 | bad=>trivial
 | ok tr qO r h' y=>
   obtain ⟨Jf,rfl,h2⟩:=h
   exact ⟨Jf,rfl,h2⟩
theorem C7.TZ {ops:Array Oper} {pl:bO} {d:DO F.T} {t:jI} (h:C7 E F n ops pl d t) {x:Step} {c:M3} (hk:c.k=x.k) (hl:c.m=j2 pl.bK pl.an x.i+1 - x.k)
 (hm:madeOf x.kind=c.made) (hs:∀h,c.f h=true→jm E ops x h=true):C7 E F n ops pl (DT c d) (t.step x):=by
 cases d with
 | bad=>trivial
 | ok tr qO r h' y=>
   obtain ⟨Jf,rfl,h2⟩:=h
   exact ⟨x::Jf,rfl,.TZ hk hl hm hs h2⟩
theorem HN:∀(m:Nat) (x y:AV),Bc m x y=true→AV.same m x y=true
 | 0,_,_,e=>by cases e
 | m+1,x,y,e=>by
   have ih:=HN m
   have all:∀(a b:List AV),leq (Bc m) a b=true→eU (AV.same m) a b=true:=by
    intro a
    induction a with
    | nil=>intro b;cases b<;>intro e<;>first | rfl | cases e
    | cons x tl ihl=>
      intro b
      cases b with
      | nil=>intro e;cases e
      | cons y tm=>
        intro e
        have e:bc (Bc m x y) (leq (Bc m) tl tm) false=true:=e
        rw[nN,Bool.and_eq_true] at e
        rw[eU,Bool.and_eq_true]
        exact ⟨ih _ _ e.1,ihl _ e.2⟩
   cases x with
   | int k a=>cases y with
     | int j b=>
       have e:bc (O3 k j) (Vv a b) false=true:=e
       rw[nN,Bool.and_eq_true,JX] at e
       rw[AV.same,LI e.1,e.2];simp
     | _=>cases e
   | str a=>cases y with
     | str b=>
       have e:leq A8 a b=true:=e
       rw[JY] at e
       rw[AV.same];exact e
     | _=>cases e
   | ptr i o=>cases y with
     | ptr j p=>
       have e:bc (Nat.beq i j) (Nat.beq o p) false=true:=e
       rw[nN,Bool.and_eq_true] at e
       rw[AV.same,l7 e.1,l7 e.2];simp
     | _=>cases e
   | bool a=>cases y with
     | bool b=>
       have e:bc a b (vx b)=true:=e
       rw[AV.same]
       cases a<;>cases b<;>first | rfl | cases e
     | _=>cases e
   | agg a=>cases y with
     | agg b=>rw[AV.same];exact all a b e
     | _=>cases e
   | _=>exact e
theorem Bl (hn:n≤F.N) {fc call:a_} (hle:j7 fc call) (ops:Array Oper) (pl:bO):∀(l:List Nat) (k:Nat) (r:F.T) (h:ax) (y:Y),
 C7 E F n ops pl ((ja E F n ops pl l k).run fc r h y) (cM E call ops l k ⟨eV F n r,h,y.ds,y.rc⟩)
 | [],k,r,h,y=>⟨[],rfl,.nil⟩
 | i::rest,k,r,h,y=>by
   have ih:=Bl hn hle ops pl rest
   rw[cM]
   show C7 E F n ops pl (D.run (ob ⟨fun _ _ _ _=> .bad⟩ (fun o=>wS F n o.dst fun s=>
    bc (qh E o.op) (canon (k+1) fun k'=>zr F n ops o (LA (vd E F n o.op) s (ja E F n ops pl rest k')) (JW s (ja E F n ops pl rest k')))
     (canon (Aq pl.bK pl.an i+1 - k) fun m=>zr F n ops o (LB k m (vd E F n o.op) s (ja E F n ops pl rest k)) (Pf s (ja E F n ops pl rest k)))) (iL ops.toList i)) fc r h y) _
   rw[gJ,Array.getElem?_toList]
   cases ho:ops[i]? with
   | none=>trivial
   | some o=>
     have fG:(ops.getD i default).op=o.op:=by rw[Array.getD_eq_getD_getElem?,ho];rfl
     simp only[TC,lp,sE,JR]
     obtain ⟨s,h1,hs⟩:=LO F n hn o.dst (fun s=>
      bc (fw E o.op) (zr F n ops o (LA (vd E F n o.op) s (ja E F n ops pl rest (k+1))) (JW s (ja E F n ops pl rest (k+1))))
      (zr F n ops o (LB k (j2 pl.bK pl.an i+1 - k) (vd E F n o.op) s (ja E F n ops pl rest k)) (Pf s (ja E F n ops pl rest k))))
     rw[h1]
     have hk:=HL (E:=E) (F:=F) (n:=n) o.op
     generalize vd E F n o.op=kd at hk
     cases he:fw E o.op with
     | true=>
       rw[jb,HM hn,if_pos rfl]
       cases hw:cm ops (eV F n r) o with
       | false=>
         rw[if_neg (by simp)]
         show C7 E F n ops pl (ra h ((ja E F n ops pl rest (k+1)).run fc (s AV.undef r) h y)) _
         simp only[hs]
         exact ((ih _ _ _ _).bound h).skip (fun _=>rfl) rfl
       | true=>
         rw[if_pos rfl]
         show C7 E F n ops pl ((LA kd s (ja E F n ops pl rest (k+1))).run fc r h y) _
         cases kd with
         | wr f=>
           show C7 E F n ops pl (ob .bad (fun p=>ra h ((ja E F n ops pl rest (k+1)).run fc (s p.1 r) p.2 y)) (f r h)) _
           cases hf:f r h with
           | none=>trivial
           | some p=>
             simp only[hk.2 call r h y.rc o p rfl hf,hs]
             exact ((ih _ _ _ _).bound h).skip (fun _=>rfl) rfl
         | call g args=>
           show C7 E F n ops pl (iQ.rec (motive:=fun _=>DO F.T) (fun v h'=>ra h ((ja E F n ops pl rest (k+1)).run fc (s v r) h' y)) (fun _ _=> .bad) (fun _ _=> .bad) (fc g (args r) h)) _
           cases hc:fc g (args r) h with
           | fail _ _=>trivial
           | panic _ _=>trivial
           | ret v h'=>
             simp only[hk.2 call r h y.rc o rfl,(hle _ _ _).1 v h' hc,mB,hs]
             exact ((ih _ _ _ _).bound h).skip (fun _=>rfl) rfl
         | uF f=>
           show C7 E F n ops pl (yh.rec (motive:=fun _=>DO F.T) (fun v h'=>ra h ((ja E F n ops pl rest (k+1)).run fc (s v r) h' y)) (fun _=> .bad) (fun _=> .bad) (fun _ _=> .bad) (fun _ _=> .bad) (f fc r h y.rc)) _
           have h2:=hk.2 fc call hle r h y.rc o rfl
           cases hf:f fc r h y.rc with
           | val v h'=>
             rw[hf] at h2
             have h2:cZ E call (eV F n r) h y.rc o= .val v h':=h2
             simp only[h2,hs]
             exact ((ih _ _ _ _).bound h).skip (fun _=>rfl) rfl
           | _=>trivial
         | _=>trivial
     | false=>
       rw[dO,HM hn,if_neg (by simp)]
       cases hw:cm ops (eV F n r) o with
       | false=>
         rw[if_neg (by simp)]
         show C7 E F n ops pl ((ja E F n ops pl rest k).run fc (s AV.undef r) h y) _
         simp only[hs]
         exact (ih _ _ _ _).skip (fun _=>rfl) rfl
       | true=>
         rw[if_pos rfl]
         show C7 E F n ops pl ((LB k (j2 pl.bK pl.an i+1 - k) kd s (ja E F n ops pl rest k)).run fc r h y) _
         cases kd with
         | Gr g=>
           simp only[hk r,hs]
           exact (ih _ _ _ _).skip (fun _=>rfl) rfl
         | gG f=>
           show C7 E F n ops pl (ob .bad (fun v=>(ja E F n ops pl rest k).run fc (s v r) h y) (f r)) _
           cases hf:f r with
           | none=>trivial
           | some v=>
             simp only[hk r v hf,hs]
             exact (ih _ _ _ _).skip (fun _=>rfl) rfl
         | red f=>
           show C7 E F n ops pl (ob .bad (fun v=>DT ⟨k,_,none,fun h'=>ob false (fun v'=>Bc 20 v' v) (f r h')⟩ ((ja E F n ops pl rest k).run fc (s v r) h y)) (f r h)) _
           cases hf:f r h with
           | none=>trivial
           | some v=>
             rcases hk r h v hf with q0 | ⟨q0,q1⟩
             · simp only[q0,hs]
               exact (ih _ _ _ _).TZ rfl rfl rfl fun h' _=>rfl
             simp only[q0,q1,hs]
             refine (ih _ _ _ _).TZ rfl rfl rfl fun h' e=>?_
             have e:ob false (fun v'=>Bc 20 v' v) (f r h')=true:=e
             cases Xc:f r h' with
             | none=>rw[Xc] at e;cases e
             | some v'=>
               rw[Xc] at e
               rcases hk r h' v' Xc with q2 | ⟨_,q3⟩
               · rw[q0] at q2;cases q2
               simp only[jm,fG,q3]
               exact HN 20 v' v e
         | sg f=>
           obtain ⟨h3,h4,h5⟩:=hk
           show C7 E F n ops pl (ob .bad (fun p=>ob .bad (fun h'=>DT ⟨k,_,some h.nx,fun LC=>ob false (fun o=>aK.same o p.1) (LC.get h.nx)⟩ ((ja E F n ops pl rest k).run fc (s (p.2 h.nx) r) h' y)) (h.new p.1)) (f r)) _
           cases hf:f r with
           | none=>trivial
           | some p=>
             obtain ⟨obj,mk⟩:=p
             show C7 E F n ops pl (ob .bad (fun h'=>DT ⟨k,_,some h.nx,fun LC=>ob false (fun o=>aK.same o obj) (LC.get h.nx)⟩ ((ja E F n ops pl rest k).run fc (s (mk h.nx) r) h' y)) (h.new obj)) _
             cases hh:h.new obj with
             | none=>trivial
             | some h'=>
               simp only[h3,h4,h5 r _ hf,hh,hs]
               refine (ih _ _ _ _).TZ rfl rfl rfl fun LC e=>?_
               have e:ob false (fun o=>aK.same o obj) (LC.get h.nx)=true:=e
               cases Xc:LC.get h.nx with
               | none=>rw[Xc] at e;cases e
               | some o'=>
                 rw[Xc] at e
                 simp only[jm,Xc]
                 exact e
         | _=>trivial
theorem PK {fc call:a_} (hle:j7 fc call) {ts:List AV} {h h':ax} {rc:RC} {dst:Option Tmp} {c:Call} {ty:TypeId} {pos:String} {after:Array Edge} {guard:Option (Nat×Bool)} {v:AV} (e:cZ E fc ts h rc ⟨dst,.call c,ty,pos,after,guard⟩= .panic v h'):
 cZ E call ts h rc ⟨dst,.call c,ty,pos,after,guard⟩= .panic v h':=by
 obtain ⟨cT,args,aT⟩:=c
 cases cT with
 | builtin b=>
   cases b<;>simp only[cZ] at e<;>(try (simp at e;done))<;>(split at e<;>(try (simp at e;done))<;>(try (split at e<;>simp at e)))
 | value f=>
   simp only[cZ] at e ⊢
   split at e
   · split at e
     · split at e<;>simp at e
     · split at e
       · simp at e
       · rename_i hc
         simp at e;obtain ⟨rfl,rfl⟩:=e
         simp only[(hle _ _ _).2 _ _ hc]
       · simp at e
   · simp at e
 | invoke x name=>
   simp only[cZ] at e ⊢
   split at e
   · split at e
     · split at e
       · simp at e
       · rename_i hc
         simp at e;obtain ⟨rfl,rfl⟩:=e
         simp only[(hle _ _ _).2 _ _ hc]
       · simp at e
     · simp at e
   · simp at e
theorem ph.snoc {ops:Array Oper} {pl:bO} {c:List M3} {t:List Step} (h:ph E ops pl c t) {x:Step} (hs:∀h,jm E ops x h=true) (hm:madeOf x.kind=none):ph E ops pl c (t++[x]):=by
 induction h with
 | nil=>exact .skip hs hm .nil
 | skip a b _ ih=>exact .skip a b ih
 | TZ a b d e _ ih=>exact .TZ a b d e ih
theorem T0 (hn:n≤F.N) {fc call:a_} (hle:j7 fc call) (ops:Array Oper) (pl:bO) (r:F.T) (h:ax) (y:Y):
 rW E F n (TA E F n ops pl fc r h y) (match cM E call ops pl.order 0 ⟨eV F n r,h,y.ds,y.rc⟩ with
  | .ok tr hs s'=>if qL E ops pl tr hs then .ok .normal s' else .fail "still" (ops[0]?)
  | .fail why o=>match AB E call ops ⟨eV F n r,h,y.ds,y.rc⟩ pl with
    | some (v,s2)=> .ok (.panic v) s2
    | none=> .fail why o):=by
 unfold TA
 split
 · trivial
 rename_i i front Tf
 split
 · rename_i tr hs r1 h1 y1 dst c ty pos after guard hd ho
   split
   · rename_i v h' EB OO
     split
     · rename_i hl
       have hk:=Bl (E:=E) hn hle ops pl front.reverse 0 r h y
       rw[hd] at hk
       obtain ⟨Jf,e1,e2⟩:=hk
       have OJ:pl.order=front.reverse++[i]:=by
        have:=congrArg List.reverse Tf
        simpa using this
       have Z7:=PK hle OO
       have MI:=EB
       simp only[Bool.and_eq_true] at MI
       obtain ⟨why,q,e3⟩:=yw ho MI.1.1 front.reverse 0 _ e1 MI.1.2 Z7
       rw[OJ,e3]
       have OP:AB E call ops ⟨eV F n r,h,y.ds,y.rc⟩ pl=some (v,⟨eV F n r1,h',y1.ds,y1.rc⟩):=by
        unfold AB
        rw[Tf]
        simp only[e1,ho,EB,if_true,Z7]
        rw[if_pos (Bk (e2.snoc (fun _=>rfl) rfl) hl)]
       simp only[OP]
       exact ⟨by simp,rfl⟩
     · trivial
   · trivial
 · trivial
theorem PL (hn:n≤F.N) {fc call:a_} (hle:j7 fc call) (ops:Array Oper) (r:F.T) (h:ax) (y:Y):
 rW E F n ((LF E F n ops).run fc r h y) (we E call ops ⟨eV F n r,h,y.ds,y.rc⟩):=by
 unfold LF we
 rw[O']
 cases sf E ops with
 | none=>trivial
 | some pl=>
   show rW E F n (DO.rec (motive:=fun _=>FO F.T) (fun tr hs r' h' y'=>bc (rb tr hs) (.Hw r' h' y') .bad) (TA E F n ops pl fc r h y) ((ja E F n ops pl pl.order 0).run fc r h y)) _
   have:=Bl (E:=E) hn hle ops pl pl.order 0 r h y
   cases hd:(ja E F n ops pl pl.order 0).run fc r h y with
   | bad=>exact T0 hn hle ops pl r h y
   | ok tr hs r' h' y'=>
     rw[hd] at this
     obtain ⟨Jf,h1,h2⟩:=this
     show rW E F n (bc (rb tr hs) (.Hw r' h' y') .bad) _
     cases hl:rb tr hs with
     | false=>trivial
     | true=>
       simp only[h1]
       rw[if_pos (Bk h2 hl)]
       rfl
end Go.Ab.Fa
end
section
namespace Go.Ab.Fa
variable {E:Env} {F:RF} {n:Nat}
theorem HO {fc call:a_} (hle:j7 fc call) {f:Operand} {ps:Array Tmp} {as_ bd:Code} {s:St} {e:jY} {s':St} (h:mM E fc f ps as_ bd s= .ok e s'):mM E call f ps as_ bd s= .ok e s':=by
 unfold mM at h ⊢
 split at h
 case h_2=>cases h
 rename_i g first captured hv
 split at h
 case h_2=>cases h
 rename_i dn h1 Wo ho
 split at h
 case h_2=>cases h
 rename_i h2 hn
 cases hc:fc (.fn g) (first++[.sc h1.nx]++captured) h2 with
 | ret v h3=>rw[hc] at h;rw[(hle _ _ _).1 _ _ hc];exact h
 | panic v h3=>rw[hc] at h;rw[(hle _ _ _).2 _ _ hc];exact h
 | fail why q=>rw[hc] at h;cases h
theorem Nb {call:a_} {f:Operand} {ps:Array Tmp} {as_ bd:Code} {s:St} {e:jY} {s':St} (h:mM E call f ps as_ bd s= .ok e s'):s'.ts=s.ts:=by
 unfold mM at h
 split at h
 case h_2=>cases h
 split at h
 case h_2=>cases h
 split at h
 case h_2=>cases h
 split at h
 · split at h
   · cases h
   · split at h
     · simp only[Out.ok.injEq] at h;rw[←h.2]
     · cases h
   · cases h
 · simp only[Out.ok.injEq] at h;rw[←h.2]
 · cases h
theorem PM {o:FO F.T} {out:Out} (h:rW E F n o out) {k:F.T→ax→Y→FO F.T} {g:St→Out} (hk:∀r h y,rW E F n (k r h y) (g ⟨eV F n r,h,y.ds,y.rc⟩)):
 rW E F n (fo k .jmp .bad o) (match (generalizing:=false) out with | .ok .normal s'=>g s' | r=>r):=by
 cases o with
 | Hw r h' y=>rw[show out=_ from h];exact hk r h' y
 | jmp e r h' y=>
   obtain ⟨h1,h2⟩:=h
   rw[h2]
   cases e with
   | normal=>exact absurd rfl h1
   | _=>exact ⟨by simp,rfl⟩
 | bad=>trivial
theorem ly (hn:n≤F.N) {fc call:a_} (hle:j7 fc call):∀(c:Code) (m:Nat) (r:F.T) (h:ax) (y:Y),
 rW E F n ((mC E F n c).run m fc r h y) (exec E call m c ⟨eV F n r,h,y.ds,y.rc⟩)
 | .skip,m,r,h,y=>by cases m with
   | zero=>trivial
   | succ m=>exact rfl
 | .label _,m,r,h,y=>by cases m with
   | zero=>trivial
   | succ m=>exact rfl
 | .ret,m,r,h,y=>by cases m with
   | zero=>trivial
   | succ m=>exact ⟨by simp,rfl⟩
 | .exit id,m,r,h,y=>by cases m with
   | zero=>trivial
   | succ m=>exact ⟨by simp,rfl⟩
 | .region _ ops draw,m,r,h,y=>by
   cases m with
   | zero=>cases draw<;>trivial
   | succ m=>cases draw with
     | true=>exact PL hn hle ops r h y
     | false=>exact Bj hn hle ops ops.toList r h y
 | .seq a b,m,r,h,y=>by cases m with
   | zero=>trivial
   | succ m=>
     have h1:=ly hn hle a m r h y
     have h2:=ly hn hle b m
     exact PM h1 (g:=fun s'=>exec E call m b s') h2
 | .cond x a b,m,r,h,y=>by
   have ha:=ly hn hle a
   have hb:=ly hn hle b
   show rW E F n (C.run (wO E F n x (fun g=>⟨fun m call r h y=>nS .bad (fun i=>jo (fun t=>bc t ((mC E F n a).run i call r h y) ((mC E F n b).run i call r h y)) .bad (g r)) m⟩) ⟨fun _ _ _ _ _=> .bad⟩) m fc r h y) _
   rcases bZ E F n x (fun g=>(⟨fun m call r h y=>nS .bad (fun i=>jo (fun t=>bc t ((mC E F n a).run i call r h y) ((mC E F n b).run i call r h y)) .bad (g r)) m⟩:C F.T)) ⟨fun _ _ _ _ _=> .bad⟩ with hw | ⟨g,hw,hg⟩<;>rw[hw]
   · trivial
   cases m with
   | zero=>trivial
   | succ m=>
     show rW E F n (jo (fun t=>bc t ((mC E F n a).run m fc r h y) ((mC E F n b).run m fc r h y)) .bad (g r)) _
     rw[exec]
     simp only[hg]
     cases g r with
     | bool t=>cases t with
       | true=>exact ha m r h y
       | false=>exact hb m r h y
     | _=>trivial
 | .block id b,m,r,h,y=>by cases m with
   | zero=>trivial
   | succ m=>
     have hb:=ly hn hle b m r h y
     show rW E F n (fo .Hw (fun e r' h' y'=>Pj (fun j=>bc (Nat.beq j id) (.Hw r' h' y') (.jmp e r' h' y')) (.jmp e r' h' y') e) .bad ((mC E F n b).run m fc r h y)) _
     rw[exec]
     cases hr:(mC E F n b).run m fc r h y with
     | bad=>trivial
     | Hw r' h' y'=>
       rw[hr] at hb
       have hb:exec E call m b _= .ok .normal ⟨eV F n r',h',y'.ds,y'.rc⟩:=hb
       rw[hb];exact rfl
     | jmp e r' h' y'=>
       rw[hr] at hb
       obtain ⟨h1,h2⟩:=hb
       rw[h2]
       cases e with
       | normal=>exact absurd rfl h1
       | exit j=>
         show rW E F n (bc (Nat.beq j id) (.Hw r' h' y') (.jmp (.exit j) r' h' y')) (if j=id then _ else _)
         cases hj:Nat.beq j id with
         | true=>rw[if_pos (l7 hj)];exact rfl
         | false=>rw[if_neg (by intro e;rw[e,Nat.beq_refl] at hj;cases hj)];exact ⟨by simp,rfl⟩
       | ret=>exact ⟨by simp,rfl⟩
       | panic v=>exact ⟨by simp,rfl⟩
 | .loop b,m,r,h,y=>by
   have hb:=ly hn hle b
   show rW E F n (Pl (mC E F n b) m fc r h y) _
   induction m generalizing r h y with
   | zero=>trivial
   | succ m ih=>
     show rW E F n (fo (fun r' h' y'=>Pl (mC E F n b) m fc r' h' y') .jmp .bad ((mC E F n b).run m fc r h y)) _
     exact PM (hb m r h y) (g:=fun s'=>exec E call m (.loop b) s') ih
 | .rangeFunc f ps as_ bd,m,r,h,y=>by
   show rW E F n ((TB (E6 E F n f ps as_ bd)).run m fc r h y) _
   cases m with
   | zero=>trivial
   | succ m=>
     show rW E F n ((E6 E F n f ps as_ bd).run fc r h y) (mM E call f ps as_ bd ⟨eV F n r,h,y.ds,y.rc⟩)
     unfold E6
     rcases bZ E F n f (fun _=>(⟨fun call r h y=>VB r (mM E call f ps as_ bd ⟨eV F n r,h,y.ds,y.rc⟩)⟩:I F.T)) ⟨fun _ _ _ _=> .bad⟩ with hw | ⟨g,hw,_⟩<;>rw[hw]
     · trivial
     simp only
     cases hr:mM E fc f ps as_ bd ⟨eV F n r,h,y.ds,y.rc⟩ with
     | fail _ _=>trivial
     | ok e s=>
       rw[HO hle hr]
       have ht:=Nb hr
       obtain ⟨ts,hh,ds,rc⟩:=s
       simp only at ht
       subst ht
       cases e with
       | normal=>exact rfl
       | _=>exact ⟨by simp,rfl⟩
 | .scope b,m,r,h,y=>by cases m with
   | zero=>trivial
   | succ m=>exact ly hn hle b m r h y
 | .goto _,m,r,h,y=>trivial
 | .refuse _,m,r,h,y=>trivial
theorem wM:∀(l:List ResultVar) (r:F.T) (h:ax) (vs:List AV),(yH E F n l).f r h=some vs→ky E h (eV F n r) l=some vs
 | [],r,h,vs,e=>e
 | .tmp t::rest,r,h,vs,e=>by
   rw[yH] at e
   obtain ⟨g,h1,h2⟩:=E9 F n t (fun g=>wW (yH E F n rest) fun k=>(⟨fun r h=>ob none (fun vs=>some (g r::vs)) (k r h)⟩:W (F.T→ax→Option (List AV))))
   rw[h1] at e
   obtain ⟨qG,h3,h4⟩:=gE (show ob none (fun vs=>some (g r::vs)) ((yH E F n rest).f r h)=some vs from e)
   rw[ky]
   simp only[h2,wM rest r h qG h3]
   exact h4
 | .cell a t::rest,r,h,vs,e=>by
   rw[yH] at e
   obtain ⟨g,h1,h2⟩:=E9 F n a (fun g=>wW (yH E F n rest) fun k=>(⟨fun r h=>ob none (fun v=>ob none (fun vs=>some (v::vs)) (k r h)) (bS E h t (g r))⟩:W (F.T→ax→Option (List AV))))
   rw[h1] at e
   obtain ⟨v,h3,h4⟩:=gE (show ob none (fun v=>ob none (fun vs=>some (v::vs)) ((yH E F n rest).f r h)) (bS E h t (g r))=some vs from e)
   obtain ⟨qG,h5,h6⟩:=gE h4
   rw[ky]
   simp only[h2,h3,wM rest r h qG h5]
   exact h6
def BOk (E:Env) (rs:List ResultVar) (b:BO) (out:Out):Prop:=match b with
 | .fin res h y=>∃e ts,(e= .normal∨e= .ret)∧out= .ok e ⟨ts,h,y.ds,y.rc⟩∧∀h' vs,res h'=some vs→ky E h' ts rs=some vs
 | .Z2 v res h y=>∃ts,out= .ok (.panic v) ⟨ts,h,y.ds,y.rc⟩∧∀h' vs,res h'=some vs→ky E h' ts rs=some vs
 | .bad=>True
theorem HQ {fc call:a_} (hle:j7 fc call) (F:RF) (fn:Func) (hn:fn.ntmps≤F.N) (b:Code) (fuel:Nat) (args:List AV) (h:ax) (rc:RC):
 BOk E fn.results.toList ((Pm E F fn.ntmps fn b).run fuel fc args h rc) (mW E call fuel fn b args h rc):=by
 show BOk E _ (bc (Nat.ble (iK args) fn.ntmps)
  (fo (fun r h' y=> .fin ((yH E F fn.ntmps fn.results.toList).f r) h' y) (fun e r h' y=>jY.rec (motive:=fun _=>BO) .bad (fun _=> .bad) (.fin ((yH E F fn.ntmps fn.results.toList).f r) h' y) (fun v=> .Z2 v ((yH E F fn.ntmps fn.results.toList).f r) h' y) e) .bad
   ((mC E F fn.ntmps b).run fuel fc (N_ F args F.z 0) h ⟨[],rc⟩)) .bad) _
 cases hl:Nat.ble (iK args) fn.ntmps with
 | false=>trivial
 | true=>
   have hl:=fE hl
   rw[fI] at hl
   have:=ly (E:=E) hn hle b fuel (N_ F args F.z 0) h ⟨[],rc⟩
   rw[Ls F fn.ntmps hn args hl] at this
   rw[jb]
   unfold mW
   cases hr:(mC E F fn.ntmps b).run fuel fc (N_ F args F.z 0) h ⟨[],rc⟩ with
   | bad=>trivial
   | Hw r h' y=>
     rw[hr] at this
     exact ⟨.normal,_,.inl rfl,this,fun LC vs e=>wM _ r LC vs e⟩
   | jmp e r h' y=>
     rw[hr] at this
     obtain ⟨h1,h2⟩:=this
     cases e with
     | normal=>exact absurd rfl h1
     | exit _=>trivial
     | ret=>exact ⟨.ret,_,.inr rfl,h2,fun LC vs e=>wM _ r LC vs e⟩
     | panic v=>exact ⟨_,h2,fun LC vs e=>wM _ r LC vs e⟩
theorem HR {fc call:a_} (hle:j7 fc call) (f:FuncId) (fuel:Nat) (args:List AV) (h:ax) (rc:RC):
 (zt E f).run fuel fc args h rc= .bad∨∃fn b,E.P.funcs[f]? =some fn∧fn.body=some b∧BOk E fn.results.toList ((zt E f).run fuel fc args h rc) (mW E call fuel fn b args h rc):=by
 unfold zt
 rw[Tt]
 cases hf:E.P.funcs[f]? with
 | none=>exact .inl rfl
 | some fn=>
   simp only
   cases hb:fn.body with
   | none=>exact .inl rfl
   | some b=>
     refine .inr ⟨fn,b,rfl,hb,?_⟩
     simp only
     cases h1:Nat.ble fn.ntmps 64 with
     | true=>exact HQ hle rf2 fn (fE h1) b fuel args h rc
     | false=>cases h2:Nat.ble fn.ntmps 512 with
       | true=>exact HQ hle rf3 fn (fE h2) b fuel args h rc
       | false=>trivial
theorem sH {fc call:a_} (hle:j7 fc call) {fuel:Nat} {c:Code} {s:St} {e:jY} {s':St} (h:LH E fc fuel c s= .ok e s'):exec E call fuel c s= .ok e s':=by
 have key:∀F:RF,s.ts.length≤F.N→LG E F fc fuel c s= .ok e s'→exec E call fuel c s= .ok e s':=by
  intro F hn hx
  have:=ly (E:=E) hn hle c fuel (N_ F s.ts F.z 0) s.h ⟨s.ds,s.rc⟩
  rw[Ls F s.ts.length hn s.ts (Nat.le_refl _),Nat.sub_self,List.replicate_zero,List.append_nil] at this
  unfold LG at hx
  cases hr:(mC E F s.ts.length c).run fuel fc (N_ F s.ts F.z 0) s.h ⟨s.ds,s.rc⟩ with
  | bad=>rw[hr] at hx;cases hx
  | Hw r h' y=>rw[hr] at hx this;rw[show exec E call fuel c s=_ from this];exact hx
  | jmp e' r h' y=>rw[hr] at hx this;rw[show exec E call fuel c s=_ from this.2];exact hx
 unfold LH at h
 cases h1:Nat.ble s.ts.length 64 with
 | true=>rw[h1] at h;exact key rf2 (fE h1) h
 | false=>cases h2:Nat.ble s.ts.length 512 with
   | true=>rw[h1,h2] at h;exact key rf3 (fE h2) h
   | false=>rw[h1,h2] at h;cases h
noncomputable def Fq (E:Env) (call:a_) (fuel:Nat) (g:FuncId) (as_:List AV) (h:ax) (rc:RC):Option (ax×RC):=match E.P.funcs[g]? with
 | none=>none
 | some fg=>match fg.body with
   | none=>none
   | some bg=>match mW E call fuel fg bg as_ h rc with
     | .ok .normal s'=>if s'.ds.isEmpty&&(ky E s'.h s'.ts fg.results.toList).isSome then some (s'.h,s'.rc) else none
     | .ok .ret s'=>if s'.ds.isEmpty&&(ky E s'.h s'.ts fg.results.toList).isSome then some (s'.h,s'.rc) else none
     | _=>none
theorem PN {fc call:a_} (hle:j7 fc call) {fuel:Nat} {g:FuncId} {as_:List AV} {h:ax} {rc:RC} {p:ax×RC} (e:hB E fc fuel g as_ h rc=some p):Fq E call fuel g as_ h rc=some p:=by
 unfold hB at e
 rcases HR (E:=E) hle g fuel as_ h rc with h1 | ⟨fn,b,h1,h2,h3⟩
 · rw[h1] at e;cases e
 · unfold Fq
   rw[h1];simp only;rw[h2];simp only
   cases hr:(zt E g).run fuel fc as_ h rc with
   | bad=>rw[hr] at e;cases e
   | Z2 v res h' y=>rw[hr] at e;cases e
   | fin res h' y=>
     rw[hr] at e h3
     obtain ⟨x,ts,h4,h5,h6⟩:=h3
     obtain ⟨h7,e1⟩:=fD (show bc y.ds.isEmpty (ob none (fun _=>some (h',y.rc)) (res h')) none=some p from e)
     obtain ⟨vs,h8,e2⟩:=gE e1
     rw[h5]
     rcases h4 with rfl | rfl
     · simp only[h7,h6 h' vs h8,Option.isSome_some,Bool.and_self,if_true];exact e2
     · simp only[h7,h6 h' vs h8,Option.isSome_some,Bool.and_self,if_true];exact e2
theorem lz {f g:FuncId→List AV→ax→RC→Option (ax×RC)} (Y3:∀k as_ h rc p,f k as_ h rc=some p→g k as_ h rc=some p):∀(ds:List ny) (p:Option AV) (h:ax) {q:Option AV×ax},cS f ds p h=some q→cS g ds p h=some q
 | [],p,h,q,e=>by cases p<;>exact e
 | .YN r::ds,p,h,q,e=>by
   rw[cS] at e ⊢
   split at e
   · exact lz Y3 ds p _ e
   · cases e
 | .call k as_::ds,none,h,q,e=>by
   rw[cS] at e ⊢
   cases hf:f k as_ h .no with
   | none=>rw[hf] at e;cases e
   | some p=>rw[hf] at e;rw[Y3 _ _ _ _ _ hf];obtain ⟨h',Ti⟩:=p;exact lz Y3 ds none h' e
 | .call k as_::ds,some v,h,q,e=>by
   rw[cS] at e ⊢
   cases hf:f k as_ h (.iJ v) with
   | none=>rw[hf] at e;cases e
   | some p=>
     rw[hf] at e;rw[Y3 _ _ _ _ _ hf];obtain ⟨h',Ti⟩:=p
     cases Ti with
     | iJ w=>exact lz Y3 ds _ h' e
     | done=>exact lz Y3 ds _ h' e
     | _=>cases e
theorem Nc {fc call:a_} (hle:j7 fc call) (fuel:Nat) (l:Nat) (args:List AV) (h:ax):(∀v h',Bd E fc fuel l args h= .ret v h'→vj E call fuel l args h= .ret v h')∧∀v h',Bd E fc fuel l args h= .panic v h'→vj E call fuel l args h= .panic v h':=by
 have key:∀out:iQ,(∀why o,out≠ .fail why o)→Bd E fc fuel l args h=out→vj E call fuel l args h=out:=by
  intro out oR e
  unfold Bd at e
  unfold vj
  split at e
  case h_2=>exact absurd e.symm (oR _ _)
  rename_i st pd ts ps as_ bd dn hg
  rw[hg]
  simp only
  by_cases ha:args.length=ps.length
  · rw[if_pos ha] at e ⊢
    split at e
    · rename_i s1 h1
      rw[sH hle h1]
      simp only
      split at e
      · rename_i pd Wq Vb SU Wr Ws VD
        rw[VD]
        simp only
        split at e
        · rename_i s2 h2;rw[sH hle h2];exact e
        · rename_i s2 h2;rw[sH hle h2];exact e
        · rename_i id s2 h2;rw[sH hle h2];exact e
        · rename_i v s2 h2;rw[sH hle h2];exact e
        · exact absurd e.symm (oR _ _)
      · exact absurd e.symm (oR _ _)
    · exact absurd e.symm (oR _ _)
    · exact absurd e.symm (oR _ _)
  · rw[if_neg ha] at e;exact absurd e.symm (oR _ _)
 exact ⟨fun v h' e=>key _ (by simp) e,fun v h' e=>key _ (by simp) e⟩
noncomputable def PO (E:Env) (call:a_) (fuel:Nat) (fn:Func) (p:Option AV) (s:St):iQ:=match cS (Fq E call fuel) s.ds p s.h with
 | none=> .fail "unwind" none
 | some (some v,h')=> .panic v h'
 | some (none,h')=>match ky E h' s.ts fn.results.toList with
   | some vs=> .ret (gP vs) h'
   | none=> .fail "results" none
theorem J2 (d fuel:Nat) {f:FuncId} {fn:Func} {b:Code} (hf:E.P.funcs[f]? =some fn) (hb:fn.body=some b) (args:List AV) (h:ax):
 gA E (d+1) fuel (.fn f) args h=(match mW E (gA E d fuel) fuel fn b args h .no with
  | .ok .normal s=>PO E (gA E d fuel) fuel fn none s
  | .ok .ret s=>PO E (gA E d fuel) fuel fn none s
  | .ok (.panic v) s=>PO E (gA E d fuel) fuel fn (some v) s
  | .ok (.exit _) _=> .fail "exit" none
  | .fail why o=> .fail (why++ " in " ++fn.name) o):=by
 rw[gA]
 simp only[hf,hb]
 rfl
theorem LS {fc call:a_} (hle:j7 fc call) {fuel:Nat} {fn:Func} {p:Option AV} {res:ax→Option (List AV)} {ts:List AV} {h:ax} {y:Y} (Dg:∀h' vs,res h'=some vs→ky E h' ts fn.results.toList=some vs) {out:iQ} (ho:∀why o,out≠ .fail why o)
 (e:HB (p.elim (ob (.fail "results" none) (fun vs=>iQ.ret (gP vs) h) (res h)) (fun v=> .panic v h)) (HA E fc fuel p res h y.ds) y.ds=out):PO E call fuel fn p ⟨ts,h,y.ds,y.rc⟩=out:=by
 unfold PO
 cases hd:y.ds with
 | nil=>
   rw[hd] at e
   cases p with
   | some v=>exact e
   | none=>
     have e:ob (.fail "results" none) (fun vs=>iQ.ret (gP vs) h) (res h)=out:=e
     cases hr:res h with
     | none=>rw[hr] at e;exact absurd e.symm (ho _ _)
     | some vs=>
       rw[hr] at e
       simp only[cS,Dg h vs hr]
       exact e
 | cons d ds=>
   rw[hd] at e
   have e:HA E fc fuel p res h (d::ds)=out:=e
   unfold HA at e
   cases hu:cS (hB E fc fuel) (d::ds) p h with
   | none=>rw[hu] at e;exact absurd e.symm (ho _ _)
   | some q=>
     rw[hu] at e
     have:=lz (g:=Fq E call fuel) (fun k as_ h rc p e=>PN hle e) (d::ds) p h hu
     simp only[this]
     obtain ⟨q1,h'⟩:=q
     cases q1 with
     | some v=>exact e
     | none=>
       have e:ob (.fail "results" none) (fun vs=>iQ.ret (gP vs) h') (res h')=out:=e
       cases hr:res h' with
       | none=>rw[hr] at e;exact absurd e.symm (ho _ _)
       | some vs=>rw[hr] at e;simp only[Dg h' vs hr];exact e
theorem HS (fuel:Nat):∀d,j7 (zu E d fuel) (gA E d fuel)
 | 0=>fun _ _ _=>⟨fun _ _ e=>(by cases e),fun _ _ e=>(by cases e)⟩
 | d+1=>by
   have ih:=HS fuel d
   intro g args h
   cases g with
   | ze l=>exact Nc ih fuel l args h
   | fn f=>
     have key:∀out:iQ,(∀why o,out≠ .fail why o)→zu E (d+1) fuel (.fn f) args h=out→gA E (d+1) fuel (.fn f) args h=out:=by
      intro out ho e
      have e:bo (fun res h' y=>HB (ob (.fail "results" none) (fun vs=>iQ.ret (gP vs) h') (res h')) (HA E (zu E d fuel) fuel none res h' y.ds) y.ds)
       (fun v res h' y=>HB (.panic v h') (HA E (zu E d fuel) fuel (some v) res h' y.ds) y.ds) (.fail "body" none) ((zt E f).run fuel (zu E d fuel) args h .no)=out:=e
      rcases HR (E:=E) ih f fuel args h .no with h1 | ⟨fn,b,h1,h2,h3⟩
      · rw[h1] at e;exact absurd e.symm (ho _ _)
      · rw[J2 d fuel h1 h2]
        cases hr:(zt E f).run fuel (zu E d fuel) args h .no with
        | bad=>rw[hr] at e;exact absurd e.symm (ho _ _)
        | fin res h' y=>
          rw[hr] at e h3
          obtain ⟨x,ts,h4,h5,h6⟩:=h3
          have:=LS (E:=E) ih (fn:=fn) (p:=none) h6 ho e
          rw[h5]
          rcases h4 with rfl | rfl<;>exact this
        | Z2 v res h' y=>
          rw[hr] at e h3
          obtain ⟨ts,h5,h6⟩:=h3
          have:=LS (E:=E) ih (fn:=fn) (p:=some v) h6 ho e
          rw[h5];exact this
     exact ⟨fun v h' e=>key _ (by simp) e,fun v h' e=>key _ (by simp) e⟩
theorem Bm {d fuel:Nat} {f:FuncId} {args:List AV} {h h':ax} {v:AV} (e:zu E d fuel (.fn f) args h= .ret v h'):gA E d fuel (.fn f) args h= .ret v h':=
 (HS fuel d _ _ _).1 v h' e
end Go.Ab.Fa
end
section
namespace Go.Ab
structure adI (P:Program) (f:FuncId) (e:Array Value→Sem Value):Prop where
 at':∃fn,P.funcs[f]? =some fn∧(fn.name== "runtime.NumGoroutine")=false∧fn.body.isNone=true∧Extern.findNext fn=none∧Extern.find fn=some e
section
open Fa
noncomputable def l3 {R:Type} (f:AV→AV→AV→R) (d:R) (l:List AV):R:=
 List.rec (motive:=fun _=>R) d (fun a tl _=>List.rec (motive:=fun _=>R) d (fun b tl _=>List.rec (motive:=fun _=>R) d (fun c tl _=>List.rec (motive:=fun _=>R) (f a b c) (fun _ _ _=>d) tl) tl) tl) l
noncomputable def l2 {R:Type} (f:AV→AV→R) (d:R) (l:List AV):R:=
 List.rec (motive:=fun _=>R) d (fun a tl _=>List.rec (motive:=fun _=>R) d (fun b tl _=>List.rec (motive:=fun _=>R) (f a b) (fun _ _ _=>d) tl) tl) l
noncomputable def n3 (f:Nat→Nat→Nat→Option AV):List AV→Option AV:=
 l3 (fun a b c=>nL (fun _ x=>nL (fun _ y=>nL (fun _ z=>kA (fun x=>kA (fun y=>kA (fun z=>f x y z) none z) none y) none x) none c) none b) none a) none
end
open Fa
theorem vA (b:UInt8) {c:Nat} (hc:c<256):Nat.beq b.toBitVec.toFin.val c=(b==c.toUInt8):=by
 by_cases h:b=c.toUInt8
 · subst h
   rw[show (c.toUInt8).toBitVec.toFin.val=c from by
    show (UInt8.ofNat c).toNat=c
    simp [Nat.mod_eq_of_lt hc]]
   rw[Nat.beq_refl];simp
 · rw[show (b==c.toUInt8)=false by simp [h]]
   cases hb:Nat.beq b.toBitVec.toFin.val c
   · rfl
   · exfalso;apply h
     have:=Nat.eq_of_beq_eq_true hb
     have e:b.toNat=c:=this
     apply UInt8.toNat_inj.mp
     rw[e];show c=(UInt8.ofNat c).toNat;simp [Nat.mod_eq_of_lt hc]
end Go.Ab
end
section
namespace Go.Ab
open Go.Maps Go.WideElems Go.RowKit Go.Proofs
section
open Fa
noncomputable def l1 {R:Type} (f:AV→R) (d:R) (l:List AV):R:=List.rec (motive:=fun _=>R) d (fun a tl _=>List.rec (motive:=fun _=>R) (f a) (fun _ _ _=>d) tl) l
end
open Fa
theorem OK.later {E:Env} {φ:Ph} {h:ax} {w w':World} (ok:OK E φ h w) (b:Below w.heap.size w w'):OK E φ h w'∧Fr φ h w φ h w':=by
 have zY:∀j p m,h.get j=some p→φ j=some m→m.dY<w.heap.size:=fun j p m hj hm=>by
  have Ap:=ok.live j p m hj hm
  rcases Nat.lt_or_ge m.dY w.heap.size with a | a
  · exact a
  · exfalso
    rw[Array.getElem?_eq_none a] at Ap
    exact Ap.absurd
 refine ⟨⟨ok.zf,ok.nx,ok.uG,fun i o l h1 h2=>?_,ok.inj⟩,⟨Ph.le_refl φ,fun _ _=>rfl,Nat.le_refl _,b.os,b.tape,b.output,b.size,fun c hc _=>b.block c hc,fun i o l h1 h2 h3=> .inr ⟨i,o,l,h1,h2,h3,rfl⟩⟩⟩
 rw[b.block _ (zY i o l h1 h2)]
 exact ok.live i o l h1 h2
end Go.Ab
end
section
namespace Go.Ab
structure SH where
 g:Nat
 k:IntKind
 ns:List Nat
 t:TypeId
def SH.cells (x:SH):List AV:=x.ns.map fun n=>AV.int x.k (Int.ofNat n)
noncomputable def j8 (G:Nat):List SH→ax
 | []=>⟨HT.nil,G,fun _=>none⟩
 | x::xs=>(j8 G xs).put x.g (some (.cells x.cells x.t true))
theorem T1 (i:Nat) (G:Nat):(ax.mk HT.nil G fun _=>none).get i=none:=by
 by_cases hi:i<262144
 · rw[ax.vk hi]
   rw[AH hi,yi,AG]
   simp only[HT.nil,Al]
 · rw[ax.qM hi]
theorem uo (G:Nat):∀l,(j8 G l).nx=G
 | []=>rfl
 | _::xs=>uo G xs
theorem rh {G:Nat}:∀{l:List SH} {i:Nat} {o:aK},(j8 G l).get i=some o→∃x∈l,x.g=i∧o= .cells x.cells x.t true
 | [],i,o,e=>by rw[j8,T1] at e;cases e
 | x::xs,i,o,e=>by
   rw[j8] at e
   by_cases h:x.g=i
   · subst h
     rw[ax.cn] at e
     exact ⟨x,by simp,rfl,(Option.some.inj e).symm⟩
   · rw[ax.bP h] at e
     obtain ⟨y,hy,h1,h2⟩:=rh e
     exact ⟨y,by simp [hy],h1,h2⟩
def PQ (w:World) (x:SH):Prop:=∃C e fz,w.heap[x.g]? =some (.cells C e fz)∧C.toList=x.ns.map fun n=>Value.int x.k (Int.ofNat n)
def VF (G:Nat):Ph:=fun i=>if i<G then some ⟨i,0,0⟩ else none
theorem OK.begin {E:Env} {w:World} {l:List SH} (hl:∀x∈l,x.g<E.G∧PQ w x):OK E (VF E.G) (j8 E.G l) w:=by
 refine ⟨fun i l' h=>?_,?_,fun g hg=>?_,fun i o l' h1 h2=>?_,fun i j o p l' m _ _ h3 h4 _ h5=>?_⟩
 · unfold VF at h;rw[uo];split at h
   · assumption
   · cases h
 · rw[uo];exact Nat.le_refl _
 · unfold VF;rw[if_pos hg]
 · obtain ⟨x,hx,rfl,rfl⟩:=rh h1
   obtain ⟨hg,C,e,⟨lo,hi⟩,hw,hC⟩:=hl x hx
   unfold VF at h2;rw[if_pos hg] at h2
   obtain rfl:=Option.some.inj h2
   refine ⟨C,e,lo,hi,hw,⟨?_,?_,(fun h=>by cases h),fun _ _ _=>rfl⟩,fun z=>by cases z⟩
   · have:C.size=x.ns.length:=by rw[←Array.length_toList,hC,List.length_map]
     simp [SH.cells,fC,this]
   · intro k y hk
     simp only[SH.cells,List.getElem?_map,Option.map_eq_some_iff] at hk
     obtain ⟨n,hn,rfl⟩:=hk
     refine ⟨.int x.k (Int.ofNat n),?_,.int _ _⟩
     rw[Nat.zero_add,←Array.getElem?_toList,hC,List.getElem?_map,hn];rfl
 · unfold VF at h3 h4
   split at h3
   · split at h4
     · obtain rfl:=Option.some.inj h3
       obtain rfl:=Option.some.inj h4
       exact h5
     · cases h4
   · cases h3
theorem HU {H:Type} {enc:TypeId×Value→H} {P:Program} {W:World} {name:String} {g:Nat} {t el:TypeId} {k:IntKind} {ns:List Nat} {cs:Array Value} (hg:P.globalNamed name=some g) (hv:W.var? P name=some cs)
 (hu:P.underlying t=some (.array ns.length el)) (he:P.underlying el=some (.int k)) (hc:P.cellsOf el=1) (hct:P.cellsOf t=ns.length) {base:Nat} {sp:Nat→Bool} {held:Bool} {fuel:Nat} {x:DataW H×List MemPlace}
 (hd:DataW.trod enc P W base sp held fuel t cs.toList=some x) (hx:x.1= .agg (ns.map fun n=> .lit (.int k (Int.ofNat n)))) (t':TypeId):PQ W ⟨g,k,ns,t'⟩:=by
 obtain ⟨xs,m,_,ex,hl,hn,hel⟩:=DataW.trod_array hu hd
 have e3:xs.map (·.1)=ns.map fun n=>DataW.lit (.int k (Int.ofNat n)):=by rw[ex] at hx;exact DataW.agg.inj hx
 simp only[World.var?,hg,Option.bind_some] at hv
 split at hv
 · rename_i C e fz hw
   obtain rfl:=Option.some.inj hv
   refine ⟨C,e,fz,hw,?_⟩
   apply List.ext_getElem?
   intro i
   by_cases hi:i<ns.length
   · have h1:=hel i hi
     rw[hc,Nat.mul_one,List.getElem?_eq_getElem (by omega)] at h1
     obtain ⟨z,e1,e2,_⟩:=DataW.trod_int he h1
     have e4:(xs.map (·.1))[i]? =(ns.map fun n=>(DataW.lit (.int k (Int.ofNat n)):DataW H))[i]? :=by rw[e3]
     rw[List.getElem?_map,List.getElem?_map,List.getElem?_eq_getElem (by omega:i<xs.length),List.getElem?_eq_getElem hi,e2] at e4
     simp only[Option.map_some,Option.some.injEq,DataW.lit.injEq,Lit.int.injEq,true_and] at e4
     have h0:((C.toList.drop i).take 1)[0]? =some (.int k z):=by rw[e1];rfl
     rw[List.getElem?_map,List.getElem?_eq_getElem hi,Option.map_some,←e4]
     simpa using h0
   · rw[List.getElem?_eq_none (by omega),List.getElem?_eq_none (by simp;omega)]
 · cases hv
noncomputable def wN (o:iQ):Bool:=iQ.rec (motive:=fun _=>Bool) (fun v _=>Fa.jo (fun b=>b) false v) (fun _ _=>false) (fun _ _=>false) o
theorem zx {o:iQ} (h:wN o=true):∃h',o= .ret (.bool true) h':=by
 cases o with
 | ret v h'=>
   cases v with
   | bool b=>exact ⟨h',by rw[show b=true from h]⟩
   | _=>cases h
 | panic v h'=>cases h
 | fail _ _=>cases h
end Go.Ab
end
section
namespace Go.Ab
variable {E:Env}
noncomputable def uq (E:Env) (call:a_) (fuel:Nat) (fn:Func) (p:Option AV) (s:St):iQ:=match cS (hB E call fuel) s.ds p s.h with
 | none=> .fail "unwind" none
 | some (some v,h')=> .panic v h'
 | some (none,h')=>match ky E h' s.ts fn.results.toList with
   | some vs=> .ret (gP vs) h'
   | none=> .fail "results" none
noncomputable def zy (E:Env) (call:a_) (fuel:Nat) (f:FuncId) (args:List AV) (h:ax):iQ:=match E.P.funcs[f]? with
 | none=> .fail "no function" none
 | some fn=>match fn.body with
   | none=> .fail ("no body " ++fn.name) none
   | some b=>match mW E call fuel fn b args h .no with
     | .ok .normal s=>uq E call fuel fn none s
     | .ok .ret s=>uq E call fuel fn none s
     | .ok (.panic v) s=>uq E call fuel fn (some v) s
     | .ok (.exit _) _=> .fail "exit" none
     | .fail why o=> .fail (why++ " in " ++fn.name) o
theorem pj (hE:kn E) (fuel:Nat) {call:a_} (ih:hS E call):(∀f args h v h',zy E call fuel f args h= .ret v h'→jZ E f args h v h')∧(∀f args h v h',zy E call fuel f args h= .panic v h'→Lj E f args h v h'):=by
 have key:∀(f:FuncId) (args:List AV) (h:ax) (out:iQ),zy E call fuel f args h=out→(∀why q,out≠ .fail why q)→
  ∃fn c e s p,E.P.funcs[f]? =some fn∧fn.body=some c∧mW E call fuel fn c args h .no= .ok e s∧
   ((p=none∧(e= .normal∨e= .ret))∨∃v,p=some v∧e= .panic v)∧
   ((∃v h',out= .panic v h'∧cS (hB E call fuel) s.ds p s.h=some (some v,h'))∨
    ∃vs h',out= .ret (gP vs) h'∧cS (hB E call fuel) s.ds p s.h=some (none,h')∧ky E h' s.ts fn.results.toList=some vs):=by
  intro f args h out e ea
  unfold zy at e
  split at e
  · exact absurd e.symm (ea _ _)
  rename_i fn hf
  split at e
  · exact absurd e.symm (ea _ _)
  rename_i c hb
  have fin:∀(p:Option AV) (s:St),uq E call fuel fn p s=out→
   ((∃v h',out= .panic v h'∧cS (hB E call fuel) s.ds p s.h=some (some v,h'))∨
    ∃vs h',out= .ret (gP vs) h'∧cS (hB E call fuel) s.ds p s.h=some (none,h')∧ky E h' s.ts fn.results.toList=some vs):=by
   intro p s hm
   unfold uq at hm
   split at hm
   · exact absurd hm.symm (ea _ _)
   · rename_i v h' hu;exact .inl ⟨v,h',hm.symm,hu⟩
   · rename_i h' hu
     split at hm
     · rename_i vs hv;exact .inr ⟨vs,h',hm.symm,hu,hv⟩
     · exact absurd hm.symm (ea _ _)
  split at e
  · rename_i s fX;exact ⟨fn,c,_,s,none,hf,hb,fX,.inl ⟨rfl,.inl rfl⟩,fin none s e⟩
  · rename_i s fX;exact ⟨fn,c,_,s,none,hf,hb,fX,.inl ⟨rfl,.inr rfl⟩,fin none s e⟩
  · rename_i v s fX;exact ⟨fn,c,_,s,some v,hf,hb,fX,.inr ⟨v,rfl,rfl⟩,fin (some v) s e⟩
  · exact absurd e.symm (ea _ _)
  · exact absurd e.symm (ea _ _)
 have run:∀(f:FuncId) (fn:Func) (c:Code) (args:List AV) (h:ax) (e:jY) (s:St) (p p':Option AV) (h':ax),E.P.funcs[f]? =some fn→fn.body=some c→mW E call fuel fn c args h .no= .ok e s→
  ((p=none∧(e= .normal∨e= .ret))∨∃v,p=some v∧e= .panic v)→cS (hB E call fuel) s.ds p s.h=some (p',h')→
  ∀(φ:Ph) (w:World) (vs:List Value),OK E φ h w→LR φ args vs→∀cs,∃φ' w' m' tmps todo,OK E φ' h' w'∧Fr φ h w φ' h' w'∧LR φ' s.ts tmps.toList∧
   ((p'=none∧m'= .returning)∨∃v v',p'=some v∧VR φ' v v'∧m'= .panicking [{v:=v',recovered:=false}])∧
   Steps E.P (lone (Frame.enter E.P f vs.toArray .normal) cs w) (lone {(bare f .normal).atR {tmps,defers:=[]} todo with mode:=m'} cs w'):=by
  intro f fn c args h e s p p' h' hf hb fX hp hu φ w vs ok hl cs
  obtain ⟨φ1,w1,a1,e1,x1,x2,x3,x4,x5,x6⟩:=(sw hE ih hf hb fX ok hl (kind:= .normal) (K:=fun _=>cs) ⟨rfl,fun fr hk=>by simp [tryRecover,show fr.kind= .normal from hk]⟩).is
  have Hj:cur (fun _=>cs) s.rc=cs:=by cases s.rc<;>rfl
  have O0:cur (fun _=>cs) RC.no=cs:=rfl
  rw[Hj] at x6
  rw[O0] at x6
  have hm:∃todo m,((p=none∧m= .returning)∨∃v v',p=some v∧VR φ1 v v'∧m= .panicking [{v:=v',recovered:=false}])∧
   Steps E.P (lone (Frame.enter E.P f vs.toArray .normal) cs w) (lone {(bare f .normal).atR a1 todo with mode:=m} cs w1):=by
   rcases hp with ⟨rfl,rfl | rfl⟩ | ⟨v,rfl,rfl⟩
   · cases x1;exact ⟨[],.returning,.inl ⟨rfl,rfl⟩,Steps.trans x6 (.one (stepR_end rfl))⟩
   · cases x1;obtain ⟨todo,hs⟩:=x6;exact ⟨_,.returning,.inl ⟨rfl,rfl⟩,Steps.trans hs (.one (stepR_ret rfl))⟩
   · cases x1 with
     | panic _ v' hv=>obtain ⟨todo,hs⟩:=x6;exact ⟨todo,_,.inr ⟨v,v',rfl,hv,rfl⟩,hs⟩
  obtain ⟨todo,m,hmp,qQ⟩:=hm
  obtain ⟨φ2,w2,m2,A2,f2,OZ,hs2⟩:=jL hE ih s.ds hu (fr:={(bare f .normal).atR a1 todo with mode:=m}) (cs:=cs) x3 x2.ds (by
   rcases hmp with ⟨e,em⟩ | ⟨v,v',e,hv,em⟩
   · exact .inl ⟨e,em⟩
   · exact .inr ⟨v,v',e,hv,em⟩)
  exact ⟨φ2,w2,m2,a1.tmps,todo,A2,x4.trans f2,x2.ts.mono f2.ext,OZ,Steps.trans qQ hs2⟩
 refine ⟨fun f args h v h' e=>?_,fun f args h v h' e=>?_⟩
 · obtain ⟨fn,c,e1,s,p,hf,hb,fX,hp,oR⟩:=key f args h _ e (by simp)
   rcases oR with ⟨v1,h1,he,_⟩ | ⟨vs1,h1,he,hu,Dg⟩
   · simp at he
   · simp at he;obtain ⟨rfl,rfl⟩:=he
     intro φ w vs ok hl
     refine ⟨enters hE hf hb _ w,fun cs=>?_⟩
     obtain ⟨φ',w',m',tmps,todo,r6,fr,ht,hm,hs⟩:=run f fn c args h e1 s p none h' hf hb fX hp hu φ w vs ok hl cs
     obtain ⟨v',hv,gB⟩:=sv r6 ht Dg
     rcases hm with ⟨_,rfl⟩ | ⟨v,v'',e,_⟩
     · exact ⟨φ',w',v',_,hv,r6,fr,hs,rfl,rfl,rfl,rfl,fn,hf,gB⟩
     · simp at e
 · obtain ⟨fn,c,e1,s,p,hf,hb,fX,hp,oR⟩:=key f args h _ e (by simp)
   rcases oR with ⟨v1,h1,he,hu⟩ | ⟨vs1,h1,he,_⟩
   · simp at he;obtain ⟨rfl,rfl⟩:=he
     intro φ w vs ok hl
     refine ⟨enters hE hf hb _ w,fun cs=>?_⟩
     obtain ⟨φ',w',m',tmps,todo,r6,fr,ht,hm,hs⟩:=run f fn c args h e1 s p (some v) h' hf hb fX hp hu φ w vs ok hl cs
     rcases hm with ⟨e,_⟩ | ⟨v2,v',e,hv,rfl⟩
     · simp at e
     · simp at e;subst e
       exact ⟨φ',w',v',_,hv,r6,fr,hs,rfl,rfl,rfl,fn,hf⟩
   · simp at he
namespace Fa
abbrev HV:=FuncId→List AV→ax→Option (AV×ax)
def Fs (E:Env) (M:HV):Prop:=∀f args h v h',M f args h=some (v,h')→jZ E f args h v h'
noncomputable def HW (nx:Nat) (l:List (Nat×aK)):ax:=List.rec (motive:=fun _=>ax) ⟨HT.nil,nx,fun _=>none⟩ (fun x _ h=>h.put x.1 (some x.2)) l
theorem DW {nx:Nat}:∀{l:List (Nat×aK)} {i:Nat} {o:aK},(HW nx l).get i=some o→(i,o)∈l
 | [],i,o,e=>by
   have e:(ax.mk HT.nil nx fun _=>none).get i=some o:=e
   by_cases hi:i<262144
   · rw[ax.vk hi] at e
     have e:(hp i).get HT.nil=some o:=e
     rw[AH hi,yi,AG] at e
     simp only[HT.nil,Al] at e
     cases e
   · rw[ax.qM hi] at e;cases e
 | x::xs,i,o,e=>by
   have e:((HW nx xs).put x.1 (some x.2)).get i=some o:=e
   by_cases h:x.1=i
   · subst h
     rw[ax.cn] at e
     cases e;simp
   · rw[ax.bP h] at e
     exact List.mem_cons_of_mem _ (DW e)
structure Ent where
 f:FuncId
 args:List AV
 nx:Nat
 K:List (Nat×aK)
 v:AV
 nx':Nat
 K':List (Nat×aK)
end Fa
end Go.Ab
end
section
namespace Go.Ab
variable {E:Env}
theorem LR.wQ {φ φ':Ph} {xs:List AV} {ys zs:List Value} (h:LR φ xs ys) (h':LR φ' xs zs) (ih:∀(i:Nat) (x:AV) (y z:Value),xs[i]? =some x→ys[i]? =some y→zs[i]? =some z→VR φ x z):LR φ xs zs:=by
 refine ⟨h'.1,fun i x z hx hz=>?_⟩
 have hi:i<xs.length:=(List.getElem?_eq_some_iff.1 hx).1
 have:i<ys.length:=by rw[←h.1];exact hi
 exact ih i x ys[i] z hx (by simp [this]) hz
theorem VR.back {φ φ':Ph} (hle:φ.le φ') {x:AV} {y:Value} (h:VR φ x y):∀{z:Value},VR φ' x z→VR φ x z:=by
 induction h with
 | bool b=>intro z h;cases h;exact .bool b
 | int k n=>intro z h;cases h;exact .int k n
 | str s=>
   intro z h
   generalize he:AV.str s.data.toList=q at h
   cases h with
   | str s'=>exact .str s'
   | _=>cases he
 | dc=>intro z h;cases h;exact .dc
 | ptr o h=>intro z h';cases h' with | ptr _ h'=>rw[hle _ _ h] at h';cases h';exact .ptr o h
 | aX=>intro z h;cases h;exact .aX
 | slice o len cap op h=>intro z h';cases h' with | slice _ _ _ _ h'=>rw[hle _ _ h] at h';cases h';exact .slice o len cap op h
 | eR a cap=>intro z h;cases h;exact .eR _ _
 | dw=>intro z h;cases h;exact .dw
 | map h=>intro z h';cases h' with | map h'=>rw[hle _ _ h] at h';cases h';exact .map h
 | func f a b a' b' la lb ha hb iha ihb=>
   intro z h
   obtain ⟨c,d,rfl,hc,hd⟩:=VR.AE h
   have h1:LR φ a c.toList:=LR.wQ (ys:=a'.toList) ⟨by simpa using la,fun i x y p q=>ha i x y p (by simpa using q)⟩ hc fun i x y z p q r=>iha i x y p (by simpa using q) (hc.2 i x z p r)
   have h2:LR φ b d.toList:=LR.wQ (ys:=b'.toList) ⟨by simpa using lb,fun i x y p q=>hb i x y p (by simpa using q)⟩ hd fun i x y z p q r=>ihb i x y p (by simpa using q) (hd.2 i x z p r)
   have:=VR.Oj f h1 h2
   simpa using this
 | nilFunc=>intro z h;cases h;exact .nilFunc
 | yield h=>intro z h';cases h' with | yield h'=>rw[hle _ _ h] at h';cases h';exact .yield h
 | iface t v v' h ih=>intro z h';cases h' with | iface _ _ _ h'=>exact .iface t v _ (ih h')
 | nilIface=>intro z h;cases h;exact .nilIface
 | agg cs gN hl h ih=>
   intro z h'
   obtain ⟨d,rfl,hd⟩:=VR.jJ h'
   have h1:LR φ cs d.toList:=LR.wQ (ys:=gN.toList) ⟨by simpa using hl,fun i x y p q=>h i x y p (by simpa using q)⟩ hd fun i x y z p q r=>ih i x y p (by simpa using q) (hd.2 i x z p r)
   have:=VR.MF h1
   simpa using this
 | any v h=>intro z h';cases h' with | any _ h'=>exact .any _ h'
 | tuple cs gN hl h ih=>
   intro z h'
   obtain ⟨d,rfl,hd⟩:=VR.Dy h'
   have h1:LR φ cs d.toList:=LR.wQ (ys:=gN.toList) ⟨by simpa using hl,fun i x y p q=>h i x y p (by simpa using q)⟩ hd fun i x y z p q r=>ih i x y p (by simpa using q) (hd.2 i x z p r)
   have:=VR.tuple' h1
   simpa using this
theorem LR.back {φ φ':Ph} (hle:φ.le φ') {xs:List AV} {ys zs:List Value} (h:LR φ xs ys) (h':LR φ' xs zs):LR φ xs zs:=
 LR.wQ h h' fun i x y z p q r=>(h.2 i x y p q).back hle (h'.2 i x z p r)
theorem OR.back {φ φ':Ph} (hle:φ.le φ') {o:aK} {l:Loc} {x z:Option Obj} (h:OR E φ o l x) (h':OR E φ' o l z):OR E φ o l z:=by
 cases o with
 | cells cs e ro=>
   obtain ⟨C,e1,lo,hi,_,hc⟩:=h
   obtain ⟨D,e2,Ju,Et,hz,hd⟩:=h'
   refine ⟨D,e2,Ju,Et,hz,⟨hd.size,fun k x hk=>?_,hd.free,hd.zero⟩,hd.shape⟩
   obtain ⟨y,_,hy⟩:=hc.val k x hk
   obtain ⟨y',h1,OC⟩:=hd.val k x hk
   exact ⟨y',h1,hy.back hle OC⟩
 | map es clock=>
   obtain ⟨_,es1,_,hl,hv⟩:=h
   obtain ⟨h0,es2,hz,SE,hv'⟩:=h'
   refine ⟨h0,es2,hz,SE,fun i x y hx hy=>?_⟩
   have hi:i<es.length:=(List.getElem?_eq_some_iff.1 hx).1
   have:i<es1.toList.length:=by rw[←hl];exact hi
   have a:=hv i x _ hx (List.getElem?_eq_getElem this)
   have b:=hv' i x y hx hy
   exact ⟨a.key.back hle b.key,a.val.back hle b.val,b.born⟩
 | uX s pos=>exact h'
 | AA m since seen qI=>
   cases m with
   | none=>exact h'
   | some m=>
     obtain ⟨_,lm,hm,_⟩:=h
     obtain ⟨h0,lm',Xb,hz⟩:=h'
     rw[hle _ _ hm] at Xb;cases Xb
     exact ⟨h0,lm,hm,hz⟩
 | loop st pd ts ps as_ bd dn=>
   obtain ⟨_,r,_,hr⟩:=h
   obtain ⟨h0,r',hz,Ov⟩:=h'
   obtain ⟨ld,hd,_⟩:=hr.defers
   obtain ⟨ld',Vo,Jc⟩:=Ov.defers
   rw[hle _ _ hd] at Vo;cases Vo
   exact ⟨h0,r',hz,Ov.state,Ov.pending,hr.tmps.back hle Ov.tmps,Ov.params,Ov.assign,Ov.body,⟨ld,hd,Jc⟩,Ov.fn⟩
 | MC=>exact h'
def Has (h h':ax):Prop:=∀i o,h.get i=some o→h'.get i=some o
theorem Has.refl (h:ax):Has h h:=fun _ _ e=>e
theorem Has.trans {a b c:ax} (x:Has a b) (y:Has b c):Has a c:=fun i o e=>y i o (x i o e)
theorem OK.forget {φ φ':Ph} {h h':ax} {w w':World} (ok:OK E φ h w) (hle:φ.le φ') (r6:OK E φ' h' w') (hs:Has h h'):OK E φ h w' where
 zf:=ok.zf
 nx:=ok.nx
 uG:=ok.uG
 live i o l a b:=(ok.live i o l a b).back hle (r6.live i o l (hs i o a) (hle _ _ b))
 inj:=ok.inj
theorem Fr.forget {φ φ':Ph} {h h':ax} {w w':World} (f:Fr φ h w φ' h' w'):Fr φ h w φ h w' where
 ext:=Ph.le_refl φ
 old _ _:=rfl
 nx:=Nat.le_refl _
 os:=f.os
 tape:=f.tape
 output:=f.output
 size:=f.size
 zX:=f.zX
 own i o l a b c:= .inr ⟨i,o,l,a,b,c,rfl⟩
def AV.plain:Nat→AV→Bool
 | 0,_=>false
 | n+1,x=>match x with
   | .bool _ | .int .. | .str _ | .dc | .aX | .dw | .nilFunc | .nilIface=>true
   | .iface _ v=>AV.plain n v
   | .agg cs=>cs.all (AV.plain n)
   | .tuple cs=>cs.all (AV.plain n)
   | _=>false
theorem VR.plain {φ φ':Ph}:∀(n:Nat) {x:AV} (_:AV.plain n x=true) {y:Value},VR φ' x y→VR φ x y
 | 0,_,h,_,_=>by cases h
 | n+1,x,h,y,hv=>by
   have ih:= @VR.plain φ φ' n
   cases hv with
   | bool b=>exact .bool b
   | int k m=>exact .int k m
   | str s=>exact .str s
   | dc=>exact .dc
   | aX=>exact .aX
   | dw=>exact .dw
   | nilFunc=>exact .nilFunc
   | nilIface=>exact .nilIface
   | iface t v v' h'=>exact .iface t v v' (ih (by simpa [AV.plain] using h) h')
   | agg cs gN hl hc=>
     refine .agg cs gN hl fun i x y a b=>ih ?_ (hc i x y a b)
     simp only[AV.plain,List.all_eq_true] at h
     exact h x (List.mem_of_getElem? a)
   | tuple cs gN hl hc=>
     refine .tuple cs gN hl fun i x y a b=>ih ?_ (hc i x y a b)
     simp only[AV.plain,List.all_eq_true] at h
     exact h x (List.mem_of_getElem? a)
   | _=>cases h
theorem jZ.closed {f:FuncId} {args:List AV} {h':ax} {v:AV} (r:jZ E f args (Fa.HW E.G []) v h') (ha:args.all (AV.plain 20)=true) (hv:AV.plain 20 v=true) (h:ax):jZ E f args h v h:=fun φ w vs ok hl=>by
 let φ0:Ph:=fun i=>if i<E.G then φ i else none
 have hle:φ0.le φ:=fun i l e=>by
  simp only[φ0] at e
  split at e
  · exact e
  · cases e
 have PS:∀{i o},(Fa.HW E.G []).get i=some o→False:=fun e=>by cases Fa.DW e
 have ok0:OK E φ0 (Fa.HW E.G []) w:=by
  refine ⟨fun i l e=>?_,Nat.le_refl _,fun g hg=>?_,fun i o l e=>(PS e).elim,fun i j o p l m e=>(PS e).elim⟩
  · simp only[φ0] at e
    split at e
    · assumption
    · cases e
  · simp only[φ0,hg,if_true];exact ok.uG g hg
 have Vc:LR φ0 args vs:=⟨hl.1,fun i x y a b=>(hl.2 i x y a b).plain 20 (List.all_eq_true.1 ha x (List.mem_of_getElem? a))⟩
 obtain ⟨h1,h2⟩:=r φ0 w vs ok0 Vc
 refine ⟨h1,fun cs=>?_⟩
 obtain ⟨φ',w',v',fr,x1,x2,x3,x4⟩:=h2 cs
 have VG:∀b,b<w.heap.size→w'.heap[b]? =w.heap[b]? :=fun b hb=>x3.zX b hb fun i o l e=>(PS e).elim
 refine ⟨φ,w',v',fr,x1.plain 20 hv,⟨ok.zf,ok.nx,ok.uG,fun i o l a b=>?_,ok.inj⟩,⟨Ph.le_refl φ,fun _ _=>rfl,Nat.le_refl _,x3.os,x3.tape,x3.output,x3.size,fun b hb _=>VG b hb,fun i o l a b c=> .inr ⟨i,o,l,a,b,c,rfl⟩⟩,x4⟩
 have hr:=ok.live i o l a b
 by_cases hb:l.dY<w.heap.size
 · rw[VG _ hb];exact hr
 · rw[Array.getElem?_eq_none (by omega)] at hr
   exact hr.absurd.elim
end Go.Ab
end
