import Derived.Laws.Externs
import Derived.Lib.Bytealg
import Derived.Maps.Own
import Derived.Maps.Range
import Derived.Sort.KeysCollected
import GoSem.ClaimChange
import Derived.OpenShut
import Derived.FnData
import Derived.ChangeArms
import Derived.Test.YtfllahfbmaafcaaA5
import Derived.Test.YtfllahfbmaafcaaA3
import Derived.Test.YtfllahfbmaafcaaA1
import Derived.Test.YtfllahfbmaafcaaA4
set_option linter.unusedVariables false
set_option linter.unusedSimpArgs false
section
namespace Go.Ab.Fa
variable {E:Env} {F:RF} {n:Nat}
theorem jb {ts:List AV} {x:Operand} {a:AV} (h:eh E ts x=some a):fS E ts [x]=some [a]:=by simp [fS,eE,h]
theorem Ex {ts:List AV} {x y:Operand} {a b:AV} (h:eh E ts x=some a) (h':eh E ts y=some b):fS E ts [x,y]=some [a,b]:=by simp [fS,eE,h,h']
theorem Xm (v:AV):adG v=kV v:=by
 cases v with
 | str s=>show some (iR s)=some s.length;rw[fL]
 | _=>rfl
theorem O' {h:au} {size m:Nat} {v:AV} {l:List AV} (e:R0 h size m v=some l):eR h size m v=some l:=by
 cases v with
 | aQ=>
   obtain ⟨h1,e1⟩:=fu (show bc (Nat.beq m 0) (some []) none=some l from e)
   simp only[eR];rw[if_pos (l7 h1)];exact e1
 | slice i o len c b=>
   obtain ⟨h1,e1⟩:=fu (show bc (Nat.ble m len) (ob none (fun obj=>yM (fun cs _ _=>bc (Nat.ble (o+m*size) (iR cs)) (some (sH (sG cs o) (m*size))) none) none obj) (h.get i)) none=some l from e)
   obtain ⟨obj,h2,e2⟩:=gL e1
   obtain ⟨cs,el,ro,rfl,e3⟩:=qW e2
   obtain ⟨h3,e4⟩:=fu e3
   have h1:=fA h1
   have h3:=fA h3
   rw[fL] at h3
   rw[qb,qa] at e4
   simp only[eR,h2]
   rw[if_pos h1]
   by_cases h0:m=0
   · subst h0
     rw[if_pos rfl]
     rw[Nat.zero_mul,List.take_zero] at e4
     exact e4
   · rw[if_neg h0,if_pos h3];exact e4
 | _=>exact e
theorem Sn {h:au} {obj:a_} {f:au→AV×au} {p:AV×au} (e:ob none (fun h'=>some (f h')) (h.new obj)=some p):∃h',h.new obj=some h'∧p=f h':=by
 obtain ⟨h',h1,e1⟩:=gL e
 exact ⟨h',h1,(Option.some.inj e1).symm⟩
theorem Xn {argTypes:Array TypeId} {sT xT elem:TypeId} {xd:TypeDesc} {size bytes:Nat} {z:AV} (h1:argTypes[0]? =some sT) (h2:argTypes[1]? =some xT) (h3:E.P.underlying sT=some (.slice elem)) (h4:E.P.underlying xT=some xd)
 (h5:kB xd=false) (h6:b7 E elem=some size) (h7:fh E elem=some bytes) (h8:eU E elem=some z) (h9:z.cells.length=size)
 {h:au} {s x:AV} {p:AV×au} (e:adH elem size bytes h s x=some p):bU E h argTypes s x=some p:=by
 obtain ⟨m,a1,e1⟩:=gL e
 rw[Xm] at a1
 obtain ⟨new,a2,e2⟩:=gL e1
 have a2:=O' a2
 obtain ⟨a3,e3⟩:=fu e2
 obtain ⟨a4,e4⟩:=fu e3
 rw[qS,I5] at a3
 have a4:=l7 a4
 rw[fL] at a4
 unfold bU
 simp only[h1,h2,h3,h4,h5,h6,h7,h8,a1,a2]
 rw[if_neg (by simp)]
 rw[if_pos ⟨h9,a3,a4⟩]
 rcases oD e4 with ⟨rfl,e5⟩ | ⟨i,o,len,cap,op,rfl,e5⟩
 · cases hm:Nat.beq m 0 with
   | true=>
     rw[hm,jl] at e5
     simp only;rw[if_pos (l7 hm)];exact e5
   | false=>
     rw[hm,dS] at e5
     obtain ⟨a5,e6⟩:=fu e5
     have a5:(4*m+4096)*(bytes+1)≤1099511627776:=fA a5
     obtain ⟨h',a6,rfl⟩:=Sn e6
     simp only
     rw[if_neg (by intro ee;rw[ee] at hm;cases hm),if_pos a5]
     simp only[a6]
 · obtain ⟨obj,a5,e6⟩:=gL e5
   obtain ⟨cs,el,ro,rfl,e7⟩:=qW e6
   obtain ⟨a6,e8⟩:=qV e7
   subst a6
   simp only[a5]
   cases hc:Nat.ble (Nat.add len m) cap with
   | true=>
     rw[hc,jl] at e8
     have hc:len+m≤cap:=fA hc
     obtain ⟨a7,e9⟩:=fu e8
     have a7:o+(len+m)*size≤iR cs:=fA a7
     rw[fL] at a7
     rw[if_pos hc,if_pos a7,←Option.some.inj e9,Gv];rfl
   | false=>
     rw[hc,dS] at e8
     have hc:cap<len+m:=j6 hc
     obtain ⟨a7,e9⟩:=fu e8
     have a7:(4*(len+m)+4096)*(bytes+1)≤1099511627776:=fA a7
     obtain ⟨a8,e10⟩:=fu e9
     have a8:o+len*size≤iR cs:=fA a8
     rw[fL] at a8
     rw[if_neg (by omega)]
     cases op with
     | true=>
       rw[jl] at e10
       obtain ⟨a9,e11⟩:=fu e10
       obtain ⟨a10,e12⟩:=fu e11
       obtain ⟨a0,e12⟩:=fu e12
       have a0:o=0:=l7 a0
       have a9:=l7 a9
       have a10:o+cap*size=iR cs:=l7 a10
       rw[fL] at a10
       obtain ⟨h',a11,rfl⟩:=Sn e12
       rw[nH,qb,qa] at a11
       rw[if_pos ⟨a7,a8,fun _=>⟨a9,a10,a0⟩⟩]
       rw[if_pos rfl]
       have aaR:(h.put i none).new (.cells ((cs.drop o).take (len*size)++new) elem false)=some h':=a11
       simp only[aaR];rfl
     | false=>
       rw[dS] at e10
       obtain ⟨h',a11,rfl⟩:=Sn e10
       rw[nH,qb,qa] at a11
       rw[if_pos ⟨a7,a8,fun hh=>by cases hh⟩]
       rw[if_neg (by simp)]
       have aaR:h.new (.cells ((cs.drop o).take (len*size)++new) elem false)=some h':=a11
       simp only[aaR];rfl
theorem lr {b:Builtin} (h1:b≠ .len) (h2:b≠ .cap) (h3:b≠ .max) (h4:b≠ .min) (a:Array Operand) (t:Array TypeId):sM E (.call ⟨.builtin b,a,t⟩):=by
 cases b<;>first | exact absurd rfl h1 | exact absurd rfl h2 | exact absurd rfl h3 | exact absurd rfl h4 | exact ⟨fun _=>rfl,fun _ _=>rfl,fun _=>rfl⟩
theorem Pa (a:Array Operand) (t:Array TypeId):fV E F n (.call ⟨.builtin .append,a,t⟩) (match a.toList with
 | [s,x]=>wO E F n s (fun gs=>wO E F n x (fun gx=>O4 E t gs gx) .bad) .bad
 | _=> .bad):=by
 have nn:sM E (.call ⟨.builtin .append,a,t⟩):=lr (by simp) (by simp) (by simp) (by simp) a t
 generalize hl:a.toList=l
 match l with
 | []=>trivial
 | [_]=>trivial
 | _::_::_::_=>trivial
 | [s,x]=>
   simp only
   rcases b6 E F n s (fun gs=>wO E F n x (fun gx=>O4 E t gs gx) .bad) (.bad:Kd F.T) with h | ⟨gs,h,hs⟩<;>rw[h]
   · trivial
   rcases b6 E F n x (fun gx=>O4 E t gs gx) (.bad:Kd F.T) with h | ⟨gx,h,hx⟩<;>rw[h]
   · trivial
   unfold O4
   simp only[gV,Array.getElem?_toList,iI,oG,R',yT]
   have fin:∀(f:F.T→au→Option (AV×au)),(∀r h p,f r h=some p→bU E h t (gs r) (gx r)=some p)→fV E F n (.call ⟨.builtin .append,a,t⟩) (.wr f):=by
    intro f hf
    refine ⟨nn,fun call r h rc o p ho e=>?_⟩
    simp only[dc,ho,hl,Ex (hs r) (hx r),hf r h p e]
   cases h1:t[0]? with
   | none=>trivial
   | some sT=>cases h2:t[1]? with
     | none=>trivial
     | some xT=>
       simp only
       cases h3:E.P.underlying sT with
       | none=>trivial
       | some sd=>cases h4:E.P.underlying xT with
         | none=>cases sd<;>trivial
         | some xd=>cases sd with
           | slice elem=>
             simp only
             cases h5:kB xd with
             | true=>
               rw[if_pos rfl]
               apply fin
               intro r h p e
               unfold bU
               simp only[h1,h2,h3,h4,h5]
               rw[if_pos trivial];exact e
             | false=>
               rw[if_neg (by simp)]
               cases h6:b7 E elem with
               | none=>trivial
               | some size=>cases h7:fh E elem with
                 | none=>trivial
                 | some bytes=>cases h8:eU E elem with
                   | none=>trivial
                   | some z=>
                     simp only
                     by_cases h9:z.cells.length=size
                     · rw[if_pos h9]
                       exact fin _ fun r h p e=>Xn h1 h2 h3 h4 h5 h6 h7 h8 h9 e
                     · rw[if_neg h9];trivial
           | _=>trivial
theorem NH (a:Array Operand) (t:Array TypeId):fV E F n (.call ⟨.builtin .copy,a,t⟩) (match a.toList with
 | [s,x]=>wO E F n s (fun gs=>wO E F n x (fun gx=> .wr fun r h=>uM E h t (gs r) (gx r)) .bad) .bad
 | _=> .bad):=by
 have nn:sM E (.call ⟨.builtin .copy,a,t⟩):=lr (by simp) (by simp) (by simp) (by simp) a t
 generalize hl:a.toList=l
 match l with
 | []=>trivial
 | [_]=>trivial
 | _::_::_::_=>trivial
 | [s,x]=>
   simp only
   rcases b6 E F n s (fun gs=>wO E F n x (fun gx=>(.wr fun r h=>uM E h t (gs r) (gx r):Kd F.T)) .bad) (.bad:Kd F.T) with h | ⟨gs,h,hs⟩<;>rw[h]
   · trivial
   rcases b6 E F n x (fun gx=>(.wr fun r h=>uM E h t (gs r) (gx r):Kd F.T)) (.bad:Kd F.T) with h | ⟨gx,h,hx⟩<;>rw[h]
   · trivial
   refine ⟨nn,fun call r h rc o p ho e=>?_⟩
   simp only[dc,ho,hl,Ex (hs r) (hx r),e]
theorem Ly (a:Array Operand) (t:Array TypeId):fV E F n (.call ⟨.builtin .recover,a,t⟩) (.uw fun _ _ h rc=>match rc with
 | .hQ x=> .rG x
 | .pP _=> .fail "" none
 | _=> .val .nilIface h):=by
 refine ⟨lr (by simp) (by simp) (by simp) (by simp) a t,fun fc call _ r h rc o ho=>?_⟩
 simp only[dc,ho]
 cases rc<;>first | trivial | rfl
theorem aaS (a:Array Operand) (t:Array TypeId):fV E F n (.call ⟨.builtin .len,a,t⟩) (match iS t.toList 0,a.toList with
 | some t,[x]=>wO E F n x (fun g=>match jQ E.P t with
   | some .string=> .gO fun r=>qQ (fun s=>some (.int .i64 (Int.ofNat (iR s)))) none (g r)
   | some (.array m _)=> .gO fun _=>some (.int .i64 (Int.ofNat m))
   | some (.slice _)=> .gO fun r=>ju (some (.int .i64 (Int.ofNat 0))) (fun _ _ m _ _=>some (.int .i64 (Int.ofNat m))) (vZ (some (.int .i64 (Int.ofNat 0))) none (g r)) (g r)
   | some (.map _ _)=> .red fun r h=>No h (g r)
   | _=> .bad) .bad
 | _,_=> .bad):=by
 rw[gV,Array.getElem?_toList]
 cases ht:t[0]? with
 | none=>trivial
 | some tt=>
   generalize hl:a.toList=l
   match l with
   | []=>trivial
   | _::_::_=>trivial
   | [x]=>
     simp only[iI]
     rcases b6 E F n x (fun g=>match E.P.underlying tt with
      | some .string=>(.gO fun r=>qQ (fun s=>some (.int .i64 (Int.ofNat (iR s)))) none (g r):Kd F.T)
      | some (.array m _)=> .gO fun _=>some (.int .i64 (Int.ofNat m))
      | some (.slice _)=> .gO fun r=>ju (some (.int .i64 (Int.ofNat 0))) (fun _ _ m _ _=>some (.int .i64 (Int.ofNat m))) (vZ (some (.int .i64 (Int.ofNat 0))) none (g r)) (g r)
      | some (.map _ _)=> .red fun r h=>No h (g r)
      | _=> .bad) .bad with h | ⟨g,h,hg⟩<;>rw[h]
     · trivial
     cases hu:E.P.underlying tt with
     | none=>trivial
     | some d=>cases d with
       | string=>
         intro r v e
         obtain ⟨s,e1,e2⟩:=oC e
         simp only[bH,ht,hl,jb (hg r),hu,e1]
         rw[←e2,fL];rfl
       | array m el=>
         intro r v e
         simp only[bH,ht,hl,jb (hg r),hu]
         exact e
       | slice el=>
         intro r v e
         rcases I4 e with ⟨e1,e2⟩ | ⟨i,o,l,c,b,e1,e2⟩ | ⟨e1,e2⟩
         · simp only[bH,ht,hl,jb (hg r),hu,e1];exact e2
         · simp only[bH,ht,hl,jb (hg r),hu,e1];exact e2
         · simp only[bH,ht,hl,jb (hg r),hu,e1];exact e2
       | map key el=>
         intro r h v e
         have e:No h (g r)=some v:=e
         generalize hm:g r=m at e
         cases m with
         | dM=>exact .inl (by simp only[bH,ht,hl,jb (hg r),hu,hm];exact e)
         | map i=>
           refine .inr ⟨by simp only[bH,ht,hl,jb (hg r),hu,hm],?_⟩
           obtain ⟨o,h3,h4⟩:=gL (show ob none (fun o=>W2 (fun es=>some (AV.int .i64 (Int.ofNat (iR es)))) none o) (h.get i)=some v from e)
           cases o with
           | map es c=>
             have h4:some (AV.int .i64 (Int.ofNat (iR es)))=some v:=h4
             simp only[dP,ht,hl,jb (hg r),hu,hm,h3]
             rw[←h4,fL];rfl
           | _=>cases h4
         | _=>cases e
       | _=>trivial
theorem aaT (a:Array Operand) (t:Array TypeId):fV E F n (.call ⟨.builtin .cap,a,t⟩) (match iS t.toList 0,a.toList with
 | some t,[x]=>wO E F n x (fun g=>match jQ E.P t with
   | some (.slice _)=> .gO fun r=>ju (some (.int .i64 (Int.ofNat 0))) (fun _ _ _ c b=>bc b none (some (.int .i64 (Int.ofNat c)))) none (g r)
   | _=> .bad) .bad
 | _,_=> .bad):=by
 rw[gV,Array.getElem?_toList]
 cases ht:t[0]? with
 | none=>trivial
 | some tt=>
   generalize hl:a.toList=l
   match l with
   | []=>trivial
   | _::_::_=>trivial
   | [x]=>
     simp only[iI]
     rcases b6 E F n x (fun g=>match E.P.underlying tt with
      | some (.slice _)=>(.gO fun r=>ju (some (.int .i64 (Int.ofNat 0))) (fun _ _ _ c b=>bc b none (some (.int .i64 (Int.ofNat c)))) none (g r):Kd F.T)
      | _=> .bad) .bad with h | ⟨g,h,hg⟩<;>rw[h]
     · trivial
     cases hu:E.P.underlying tt with
     | none=>trivial
     | some d=>cases d with
       | slice el=>
         intro r v e
         rcases oD e with ⟨e1,e2⟩ | ⟨i,o,l,c,b,e1,e2⟩
         · simp only[bH,ht,hl,jb (hg r),hu,e1];exact e2
         · obtain ⟨rfl,e3⟩:=qV e2
           simp only[bH,ht,hl,jb (hg r),hu,e1];exact e3
       | _=>trivial
theorem Pb (f:FuncId) (a:Array Operand) (t:Array TypeId):fV E F n (.call ⟨.value (.func f),a,t⟩) (wL E F n a.toList (fun gs=>match E.mn f with
 | some e=> .gO fun r=>e (gs r)
 | none=>match E.iC f with
   | some g=> .wr fun r h=>g (gs r) h
   | none=> .call (.fn f) gs) .bad):=by
 rcases ub E F n a.toList (fun gs=>match E.mn f with
  | some e=>(.gO fun r=>e (gs r):Kd F.T)
  | none=>match E.iC f with
    | some g=> .wr fun r h=>g (gs r) h
    | none=> .call (.fn f) gs) .bad with h | ⟨gs,h,hg⟩<;>rw[h]
 · trivial
 cases hp:E.mn f with
 | some e=>
   intro r v h
   simp only[bH,hp,hg];exact h
 | none=>
   have nn:sM E (.call ⟨.value (.func f),a,t⟩):=⟨fun _=>by simp only[bH,hp],fun _ _=>rfl,fun _=>rfl⟩
   have hc:∀r,callee E (eV F n r) ⟨.value (.func f),a,t⟩=some (.fn f,gs r):=by
    intro r
    simp only[callee,hg,eh]
    simp
   cases hs:E.iC f with
   | some g=>
     refine ⟨nn,fun call r h rc o p ho e=>?_⟩
     have e':g (gs r) h=some p:=e
     simp only[dc,ho,hc,jK,hs,e']
   | none=>
     refine ⟨nn,fun call r h rc o ho=>?_⟩
     simp only[dc,ho,hc,jK,hs]
     cases call (.fn f) (gs r) h<;>rfl
theorem B6 {a b:jd} (h1:∀v h',a= .ret v h'→b= .ret v h') (h2:∀v h',a= .panic v h'→b= .panic v h'):Zm (mG a) (mG b):=by
 cases a with
 | ret v h=>rw[h1 v h rfl];rfl
 | panic v h=>rw[h2 v h rfl];rfl
 | fail _ _=>trivial
theorem vD (x:Operand) (hx:∀f,x≠ .func f) (a:Array Operand) (t:Array TypeId):fV E F n (.call ⟨.value x,a,t⟩) (wO E F n x (fun gf=>wL E F n a.toList (fun gs=> .uw fun call r h _=>Nk
 (fun g first captured=>ob (mG (call (.fn g) (kW first (kW (gs r) captured)) h)) (fun sp=>ob (.fail "" none) (fun p=> .val p.1 p.2) (sp (kW first (kW (gs r) captured)) h)) (E.iC g))
 (fun l=>mG (call (.vk l) (gs r) h)) (.fail "" none) (gf r)) .bad) .bad):=by
 have nn:sM E (.call ⟨.value x,a,t⟩):=by
  cases x with
  | func f=>exact absurd rfl (hx f)
  | _=>exact ⟨fun _=>rfl,fun _ _=>rfl,fun _=>rfl⟩
 let K:(F.T→AV)→(F.T→List AV)→Kd F.T:=fun gf gs=> .uw fun call r h _=>Nk
  (fun g first captured=>ob (mG (call (.fn g) (kW first (kW (gs r) captured)) h)) (fun sp=>ob (.fail "" none) (fun p=> .val p.1 p.2) (sp (kW first (kW (gs r) captured)) h)) (E.iC g))
  (fun l=>mG (call (.vk l) (gs r) h)) (.fail "" none) (gf r)
 show fV E F n _ (wO E F n x (fun gf=>wL E F n a.toList (fun gs=>K gf gs) .bad) .bad)
 rcases b6 E F n x (fun gf=>wL E F n a.toList (fun gs=>K gf gs) .bad) .bad with h | ⟨gf,h,hf⟩<;>rw[h]
 · trivial
 rcases ub E F n a.toList (fun gs=>K gf gs) .bad with h | ⟨gs,h,hg⟩<;>rw[h]
 · trivial
 refine ⟨nn,fun fc call hle r h rc o ho=>?_⟩
 have ec:∀R,callee E (eV F n r) ⟨.value x,a,t⟩=R→dc E call (eV F n r) h rc o=(match R with
  | some (f,args)=>match jK E f with
    | some g=>(match g args h with | some (x,h')=> .val x h' | none=> .fail "eff" (some o))
    | none=>mG (call f args h)
  | none=> .fail "callee" (some o)):=by
  intro R hR
  simp only[dc,ho,hR]
  cases R with
  | none=>rfl
  | some p=>
    obtain ⟨f,args⟩:=p
    simp only
    cases jK E f with
    | none=>simp only;cases call f args h<;>rfl
    | some g=>rfl
 show Zm (Nk _ _ _ (gf r)) _
 cases hv:gf r with
 | func g first captured=>
   have hc:callee E (eV F n r) ⟨.value x,a,t⟩=some (.fn g,first++gs r++captured):=by
    simp only[callee,hf,hg,hv]
   rw[ec _ hc]
   have ha:kW first (kW (gs r) captured)=first++gs r++captured:=by rw[nH,nH,List.append_assoc]
   show Zm (ob (mG (fc (.fn g) (kW first (kW (gs r) captured)) h)) (fun sp=>ob (.fail "" none) (fun p=> .val p.1 p.2) (sp (kW first (kW (gs r) captured)) h)) (E.iC g)) _
   rw[ha]
   simp only[jK]
   cases hs:E.iC g with
   | none=>exact B6 (hle _ _ _).1 (hle _ _ _).2
   | some sp=>
     show Zm (ob (.fail "" none) (fun p=> .val p.1 p.2) (sp (first++gs r++captured) h)) _
     simp only
     cases sp (first++gs r++captured) h with
     | none=>trivial
     | some p=>rfl
 | cM l=>
   have hc:callee E (eV F n r) ⟨.value x,a,t⟩=some (.vk l,gs r):=by
    simp only[callee,hf,hg,hv]
   rw[ec _ hc]
   simp only[jK]
   exact B6 (hle _ _ _).1 (hle _ _ _).2
 | _=>trivial
theorem Pc (x:Operand) (name:String) (a:Array Operand) (t:Array TypeId):fV E F n (.call ⟨.invoke x name,a,t⟩) (wO E F n x (fun gx=>wL E F n a.toList (fun gs=> .uw fun call r h _=>qR
 (fun t v=>ob (.fail "" none) (fun f=>mG (call (.fn f) (v::gs r) h)) (I1 E t name)) (.fail "" none) (gx r)) .bad) .bad):=by
 have nn:sM E (.call ⟨.invoke x name,a,t⟩):=⟨fun _=>rfl,fun _ _=>rfl,fun _=>rfl⟩
 let K:(F.T→AV)→(F.T→List AV)→Kd F.T:=fun gx gs=> .uw fun call r h _=>qR
  (fun t v=>ob (.fail "" none) (fun f=>mG (call (.fn f) (v::gs r) h)) (I1 E t name)) (.fail "" none) (gx r)
 show fV E F n _ (wO E F n x (fun gx=>wL E F n a.toList (fun gs=>K gx gs) .bad) .bad)
 rcases b6 E F n x (fun gx=>wL E F n a.toList (fun gs=>K gx gs) .bad) .bad with h | ⟨gx,h,hx⟩<;>rw[h]
 · trivial
 rcases ub E F n a.toList (fun gs=>K gx gs) .bad with h | ⟨gs,h,hg⟩<;>rw[h]
 · trivial
 refine ⟨nn,fun fc call hle r h rc o ho=>?_⟩
 show Zm (qR _ _ (gx r)) _
 cases hv:gx r with
 | iface u v=>
   show Zm (ob (.fail "" none) (fun f=>mG (fc (.fn f) (v::gs r) h)) (I1 E u name)) _
   cases hm:I1 E u name with
   | none=>trivial
   | some f=>
     have V9:wg E u name=some f:=hm
     have ec:dc E call (eV F n r) h rc o=mG (call (.fn f) (v::gs r) h):=by
      simp only[dc,ho,hx,hg,hv,V9]
      cases call (.fn f) (v::gs r) h<;>rfl
     rw[ec]
     exact B6 (hle _ _ _).1 (hle _ _ _).2
 | _=>trivial
theorem Sp (c:Call):fV E F n (.call c) (Zj E F n c (.call c)):=by
 obtain ⟨cW,a,t⟩:=c
 cases cW with
 | value x=>cases x with
   | func f=>exact Pb f a t
   | tmp x=>exact vD (.tmp x) (by simp) a t
   | const x=>exact vD (.const x) (by simp) a t
   | global x=>exact vD (.global x) (by simp) a t
 | invoke r m=>exact Pc r m a t
 | builtin b=>cases b with
   | append=>exact Pa a t
   | copy=>exact NH a t
   | recover=>exact Ly a t
   | len=>exact aaS a t
   | cap=>exact aaT a t
   | max=>exact fun r v e=>e
   | min=>exact fun r v e=>e
   | _=>trivial
theorem Ja (op:Op):fV E F n op (uR E F n op):=by
 cases op with
 | move x=>
   show fV E F n _ (wO E F n x .HX .bad)
   rcases b6 E F n x .HX (.bad:Kd F.T) with h | ⟨g,h,hg⟩<;>rw[h]
   · trivial
   · exact hg
 | assign x=>
   show fV E F n _ (wO E F n x .HX .bad)
   rcases b6 E F n x .HX (.bad:Kd F.T) with h | ⟨g,h,hg⟩<;>rw[h]
   · trivial
   · exact hg
 | pick c a b=>exact Xj c a b
 | binOp op t x y yt=>
   show fV E F n _ (wO E F n x (fun gx=>wO E F n y (fun gy=>cF op (jI E op t (isConst x) (isConst y)) gx gy) .bad) .bad)
   rcases b6 E F n x (fun gx=>wO E F n y (fun gy=>cF op (jI E op t (isConst x) (isConst y)) gx gy) .bad) (.bad:Kd F.T) with h | ⟨gx,h,hx⟩<;>rw[h]
   · trivial
   rcases b6 E F n y (fun gy=>cF op (jI E op t (isConst x) (isConst y)) gx gy) (.bad:Kd F.T) with h | ⟨gy,h,hy⟩<;>rw[h]
   · trivial
   exact Xh op t x y yt gx gy hx hy
 | unOp op t x=>
   show fV E F n _ (wO E F n x (unK op) .bad)
   rcases b6 E F n x (unK op) (.bad:Kd F.T) with h | ⟨g,h,hg⟩<;>rw[h]
   · trivial
   exact aaM op t x g hg
 | fieldAddr s x f=>exact Gy s x f
 | load t a=>exact Xi t a
 | store t a x=>exact Sh t a x
 | nilCheck x=>exact I7 x
 | extract x i=>exact Lw x i
 | field s x f=>exact Se s x f
 | indexAddr t x ix=>exact GA t x ix
 | index t x ix=>exact Sf t x ix
 | slice t x lo hi mx=>cases mx with
   | none=>exact Sg t x lo hi
   | some m=>exact fun r v e=>e
 | convert s d x=>exact Lx s d x
 | makeInterface t x=>exact yU t x
 | makeFunc f a b=>cases f with
   | func f=>exact I9 f a b
   | _=>trivial
 | alloc t=>exact Si t
 | box t x=>exact aaQ t x
 | buildSlice t len parts=>exact DL t len parts
 | makeSlice t l c=>exact GB t l c
 | makeMap t r=>cases r with
   | none=>exact ⟨fun _=>rfl,fun _ _=>rfl,fun r p e=>e⟩
   | some x=>exact ⟨fun _=>rfl,fun _ _=>rfl,fun r p e=>e⟩
 | range t x=>exact ⟨fun _=>rfl,fun _ _=>rfl,fun r p e=>e⟩
 | lookup t x ix ok=>exact O9 t x ix ok
 | build t parts=>exact Sk t parts
 | typeAssert x a b ok=>exact fun r v e=>e
 | mapUpdate t m k x=>exact GC t m k x
 | insert t m k x=>exact O_ t m k x
 | next it s=>exact Xl it s
 | panic x=>exact Sl x
 | defer c=>exact Sm c
 | call c=>exact Sp c
 | _=>trivial
end Go.Ab.Fa
end
section
namespace Go.Ab.Fa
variable {E:Env} {F:RF} {n:Nat}
def rV (_E:Env) (F:RF) (n:Nat) (o:FO F.T) (out:Out):Prop:=match o with
 | .IY r h y=>out= .ok .normal ⟨eV F n r,h,y.ds,y.rc⟩
 | .jmp e r h y=>e≠ .normal∧out= .ok e ⟨eV F n r,h,y.ds,y.rc⟩
 | .bad=>True
theorem GD {call:bw} {s:St} {o:Oper} {v:AV} (h:bH E s.ts o.op=some v):FK E call s o= .ok .normal {s with ts:=dH s.ts o.dst v}:=by
 simp only[FK,h]
theorem Xo {call:bw} {s:St} {o:Oper} {v:AV} (h0:bH E s.ts o.op=none) (h:dP E s.ts s.h o.op=some v):FK E call s o= .ok .normal {s with ts:=dH s.ts o.dst v}:=by
 simp only[FK,h0,h]
theorem GF {call:bw} {s:St} {o:Oper} (nn:sM E o.op):FK E call s o=(match dc E call s.ts s.h s.rc o with
 | .val v h'=> .ok .normal {s with ts:=dH s.ts o.dst v,h:=h'}
 | .defer d=> .ok .normal {s with ts:=dH s.ts o.dst AV.undef,ds:=d::s.ds}
 | .rG v=> .ok .normal {s with ts:=dH s.ts o.dst v,rc:= .done}
 | .panic v h'=> .ok (.panic v) {s with h:=h'}
 | .fail why q=> .fail why q):=by
 simp only[FK,nn.1,nn.2.1,nn.2.2]
 generalize dc E call s.ts s.h s.rc o=x
 cases x<;>rfl
noncomputable def adM (E:Env) (call:bw) (ops:Array Oper) (rest:List Oper) (out:Out):Out:=match out with
 | .ok .normal s'=>jZ E call ops rest s'
 | r=>r
theorem Xp {ops:Array Oper} {o:Oper} {rest:List Oper} {kd:Kd F.T} {s:AV→F.T→F.T} {j:I F.T} {fc call:bw} (hle:j7 fc call) (hk:fV E F n o.op kd)
 (hs:∀v r,dH (eV F n r) o.dst v=eV F n (s v r)) (hj:∀r h y,rV E F n (j.run fc r h y) (jZ E call ops rest ⟨eV F n r,h,y.ds,y.rc⟩)) (r:F.T) (h:au) (y:Y):
 rV E F n ((Lr kd s j).run fc r h y) (adM E call ops rest (FK E call ⟨eV F n r,h,y.ds,y.rc⟩ o)):=by
 cases kd with
 | HX g=>
   rw[GD (s:=⟨eV F n r,h,y.ds,y.rc⟩) (hk r)]
   show rV E F n (j.run fc (s (g r) r) h y) (jZ E call ops rest ⟨dH (eV F n r) o.dst (g r),h,y.ds,y.rc⟩)
   rw[hs];exact hj _ _ _
 | gO f=>
   show rV E F n (ob .bad (fun v=>j.run fc (s v r) h y) (f r)) _
   cases hf:f r with
   | none=>trivial
   | some v=>
     rw[GD (s:=⟨eV F n r,h,y.ds,y.rc⟩) (hk r v hf)]
     show rV E F n (j.run fc (s v r) h y) (jZ E call ops rest ⟨dH (eV F n r) o.dst v,h,y.ds,y.rc⟩)
     rw[hs];exact hj _ _ _
 | red f=>
   show rV E F n (ob .bad (fun v=>j.run fc (s v r) h y) (f r h)) _
   cases hf:f r h with
   | none=>trivial
   | some v=>
     rcases hk r h v hf with h0 | ⟨h0,h1⟩
     · rw[GD (s:=⟨eV F n r,h,y.ds,y.rc⟩) h0]
       show rV E F n (j.run fc (s v r) h y) (jZ E call ops rest ⟨dH (eV F n r) o.dst v,h,y.ds,y.rc⟩)
       rw[hs];exact hj _ _ _
     rw[Xo (s:=⟨eV F n r,h,y.ds,y.rc⟩) h0 h1]
     show rV E F n (j.run fc (s v r) h y) (jZ E call ops rest ⟨dH (eV F n r) o.dst v,h,y.ds,y.rc⟩)
     rw[hs];exact hj _ _ _
 | si f=>
   obtain ⟨h0,h1,h2⟩:=hk
   show rV E F n (ob .bad (fun p=>ob .bad (fun h'=>j.run fc (s (p.2 h.nx) r) h' y) (h.new p.1)) (f r)) _
   cases hf:f r with
   | none=>trivial
   | some p=>
     obtain ⟨obj,mk⟩:=p
     show rV E F n (ob .bad (fun h'=>j.run fc (s (mk h.nx) r) h' y) (h.new obj)) _
     cases hh:h.new obj with
     | none=>trivial
     | some h'=>
       have:FK E call ⟨eV F n r,h,y.ds,y.rc⟩ o= .ok .normal ⟨dH (eV F n r) o.dst (mk h.nx),h',y.ds,y.rc⟩:=by
        simp only[FK,h0,h1,h2 r _ hf,hh]
       rw[this,hs];exact hj _ _ _
 | wr f=>
   obtain ⟨nn,h1⟩:=hk
   show rV E F n (ob .bad (fun p=>j.run fc (s p.1 r) p.2 y) (f r h)) _
   cases hf:f r h with
   | none=>trivial
   | some p=>
     rw[GF nn,h1 call r h y.rc o p rfl hf]
     show rV E F n (j.run fc (s p.1 r) p.2 y) (jZ E call ops rest ⟨dH (eV F n r) o.dst p.1,p.2,y.ds,y.rc⟩)
     rw[hs];exact hj _ _ _
 | call g args=>
   obtain ⟨nn,h1⟩:=hk
   rw[GF nn,h1 call r h y.rc o rfl]
   show rV E F n (jd.rec (motive:=fun _=>FO F.T) (fun v h'=>j.run fc (s v r) h' y) (fun v h'=> .jmp (.panic v) r h' y) (fun _ _=> .bad) (fc g (args r) h)) _
   cases hc:fc g (args r) h with
   | fail _ _=>trivial
   | ret v h'=>
     rw[(hle _ _ _).1 v h' hc]
     show rV E F n (j.run fc (s v r) h' y) (jZ E call ops rest ⟨dH (eV F n r) o.dst v,h',y.ds,y.rc⟩)
     rw[hs];exact hj _ _ _
   | panic v h'=>
     rw[(hle _ _ _).2 v h' hc]
     exact ⟨by simp,rfl⟩
 | uw f=>
   obtain ⟨nn,h1⟩:=hk
   rw[GF nn]
   have h2:=h1 fc call hle r h y.rc o rfl
   show rV E F n (yv.rec (motive:=fun _=>FO F.T) (fun v h'=>j.run fc (s v r) h' y) (fun d=>j.run fc (s AV.undef r) h ⟨d::y.ds,y.rc⟩) (fun v=>j.run fc (s v r) h ⟨y.ds,.done⟩)
    (fun v h'=> .jmp (.panic v) r h' y) (fun _ _=> .bad) (f fc r h y.rc)) _
   cases he:f fc r h y.rc with
   | fail _ _=>trivial
   | val v h'=>
     rw[he] at h2
     have h2:dc E call (eV F n r) h y.rc o= .val v h':=h2
     rw[h2]
     show rV E F n (j.run fc (s v r) h' y) (jZ E call ops rest ⟨dH (eV F n r) o.dst v,h',y.ds,y.rc⟩)
     rw[hs];exact hj _ _ _
   | defer d=>
     rw[he] at h2
     have h2:dc E call (eV F n r) h y.rc o= .defer d:=h2
     rw[h2]
     show rV E F n (j.run fc (s AV.undef r) h ⟨d::y.ds,y.rc⟩) (jZ E call ops rest ⟨dH (eV F n r) o.dst AV.undef,h,d::y.ds,y.rc⟩)
     rw[hs];exact hj _ _ ⟨d::y.ds,y.rc⟩
   | rG v=>
     rw[he] at h2
     have h2:dc E call (eV F n r) h y.rc o= .rG v:=h2
     rw[h2]
     show rV E F n (j.run fc (s v r) h ⟨y.ds,.done⟩) (jZ E call ops rest ⟨dH (eV F n r) o.dst v,h,y.ds,.done⟩)
     rw[hs];exact hj _ _ ⟨y.ds,.done⟩
   | panic v h'=>
     rw[he] at h2
     have h2:dc E call (eV F n r) h y.rc o= .panic v h':=h2
     rw[h2]
     exact ⟨by simp,rfl⟩
 | bad=>trivial
def yV (ts:List AV) (d:Nat) (want:Bool):Bool:=match ts[d]? with
 | some (.bool b)=>b==want
 | _=>false
theorem zU {ts:List AV} {d:Nat} (h:ts.length≤d) (want:Bool):yV ts d want=false:=by
 unfold yV;rw[List.getElem?_eq_none h]
theorem zV {ts:List AV} {d:Nat} {v:AV} (h:ts[d]? =some v) (want:Bool):yV ts d want=jt (fun b=>b==want) false v:=by
 unfold yV;rw[h];cases v<;>rfl
theorem wV (ops:Array Oper) (ts:List AV) (o:Oper) {j:Nat} {want:Bool} (hg:o.guard=some (j,want)):cE ops ts o=(match (ops[j]?).bind (·.dst) with
 | some d=>match ts[d]? with
   | some (.bool b)=>b==want
   | _=>false
 | none=>false):=by simp only[cE,hg];rfl
theorem Sq (ops:Array Oper) (j:Nat):ob none (fun p=>p.dst) (iS ops.toList j)=(ops[j]?).bind (·.dst):=by
 rw[gV,Array.getElem?_toList];cases ops[j]? <;>rfl
theorem Sr (_hn:n≤F.N) (ops:Array Oper) (o:Oper) (a b:I F.T) (call:bw) (r:F.T) (h:au) (y:Y):
 (Nr F n ops o a b).run call r h y=bif cE ops (eV F n r) o then a.run call r h y else b.run call r h y:=by
 unfold Nr
 cases hg:o.guard with
 | none=>simp only[cE,hg];rfl
 | some p=>
   obtain ⟨j,want⟩:=p
   rw[wV ops _ o hg]
   simp only[Sq]
   cases (ops[j]?).bind (·.dst) with
   | none=>rfl
   | some d=>
     show (bc (Nat.ble n d) b (Ls (F.get d).f want a b)).run call r h y=bif yV (eV F n r) d want then a.run call r h y else b.run call r h y
     cases hd:Nat.ble n d with
     | true=>
       rw[zU (by rw[iH];exact fA hd)];rfl
     | false=>
       rw[zV (tY F n r (j6 hd)),dS]
       cases want with
       | true=>
         show jt (fun t=>bc t (a.run call r h y) (b.run call r h y)) (b.run call r h y) ((F.get d).f r)=_
         cases (F.get d).f r with
         | bool t=>cases t<;>rfl
         | _=>rfl
       | false=>
         show jt (fun t=>bc t (b.run call r h y) (a.run call r h y)) (b.run call r h y) ((F.get d).f r)=_
         cases (F.get d).f r with
         | bool t=>cases t<;>rfl
         | _=>rfl
theorem Jb (_hn:n≤F.N) (ops:Array Oper) (o:Oper) (a b:D F.T) (call:bw) (r:F.T) (h:au) (y:Y):
 (zR F n ops o a b).run call r h y=bif cE ops (eV F n r) o then a.run call r h y else b.run call r h y:=by
 unfold zR
 cases hg:o.guard with
 | none=>simp only[cE,hg];rfl
 | some p=>
   obtain ⟨j,want⟩:=p
   rw[wV ops _ o hg]
   simp only[Sq]
   cases (ops[j]?).bind (·.dst) with
   | none=>rfl
   | some d=>
     show (bc (Nat.ble n d) b (R3 (F.get d).f want a b)).run call r h y=bif yV (eV F n r) d want then a.run call r h y else b.run call r h y
     cases hd:Nat.ble n d with
     | true=>
       rw[zU (by rw[iH];exact fA hd)];rfl
     | false=>
       rw[zV (tY F n r (j6 hd)),dS]
       cases want with
       | true=>
         show jt (fun t=>bc t (a.run call r h y) (b.run call r h y)) (b.run call r h y) ((F.get d).f r)=_
         cases (F.get d).f r with
         | bool t=>cases t<;>rfl
         | _=>rfl
       | false=>
         show jt (fun t=>bc t (b.run call r h y) (a.run call r h y)) (b.run call r h y) ((F.get d).f r)=_
         cases (F.get d).f r with
         | bool t=>cases t<;>rfl
         | _=>rfl
theorem B7 (hn:n≤F.N) {fc call:bw} (hle:j7 fc call) (ops:Array Oper):∀(l:List Oper) (r:F.T) (h:au) (y:Y),
 rV E F n ((ua E F n ops l).run fc r h y) (jZ E call ops l ⟨eV F n r,h,y.ds,y.rc⟩)
 | [],r,h,y=>rfl
 | o::rest,r,h,y=>by
   have ih:=B7 hn hle ops rest
   show rV E F n ((R1 E F n ops o (ua E F n ops rest)).run fc r h y) _
   unfold R1
   obtain ⟨s,h1,hs⟩:=NF F n hn o.dst (fun s=>Nr F n ops o (Lr (uR E F n o.op) s (ua E F n ops rest)) (Zk s (ua E F n ops rest)))
   rw[h1,Sr hn]
   rw[jZ]
   cases hw:cE ops (eV F n r) o with
   | true=>
     rw[if_pos rfl]
     exact Xp hle (Ja o.op) hs ih r h y
   | false=>
     rw[if_neg (by simp)]
     show rV E F n ((ua E F n ops rest).run fc (s AV.undef r) h y) _
     simp only[hs]
     exact ih _ _ _
def madeOf:TK→Option Nat
 | .si n _=>some n
 | _=>none
theorem wX (x:Step) (t:List Step):qD (x::t)=match madeOf x.kind with | none=>qD t | some i=>i::qD t:=by
 show List.filterMap (fun x:Step=>madeOf x.kind) (x::t)=_
 rw[List.filterMap_cons];cases madeOf x.kind<;>rfl
inductive po (E:Env) (ops:Array Oper) (pl:lY):List O5→List Step→Prop
 | nil:po E ops pl [] []
 | skip {x:Step} {c:List O5} {t:List Step} (hs:∀h,jr E ops x h=true) (hm:madeOf x.kind=none) (ht:po E ops pl c t):po E ops pl c (x::t)
 | Xq {x:Step} {c0:O5} {c:List O5} {t:List Step} (hk:c0.k=x.k) (hl:c0.m=j0 pl.bR pl.an x.i+1 - x.k) (hm:madeOf x.kind=c0.made)
  (hs:∀h,c0.f h=true→jr E ops x h=true) (ht:po E ops pl c t):po E ops pl (c0::c) (x::t)
theorem po.made {ops:Array Oper} {pl:lY} {c:List O5} {t:List Step} (h:po E ops pl c t):Nv c=qD t:=by
 induction h with
 | nil=>rfl
 | skip hs hm ht ih=>rw[wX,hm];exact ih
 | Xq hk hl hm hs ht ih=>
   rename_i x c0 c t
   show ob (Nv c) (fun i=>i::Nv c) c0.made=_
   rw[wX,hm,ih]
   cases c0.made<;>rfl
theorem po.all {ops:Array Oper} {pl:lY} {hs:List au} {c:List O5} {t:List Step} (h:po E ops pl c t) (e:c.all (fun x=>yN x.f (sH (sG hs x.k) x.m))=true):
 t.all (fun x=>((hs.drop x.k).take (j0 pl.bR pl.an x.i+1 - x.k)).all (jr E ops x))=true:=by
 induction h with
 | nil=>rfl
 | skip qI hm ht ih=>
   rw[List.all_cons,ih e,Bool.and_true,List.all_eq_true]
   intro h _;exact qI h
 | Xq hk hl hm qI ht ih=>
   rw[List.all_cons,Bool.and_eq_true] at e
   rw[List.all_cons,ih e.2,Bool.and_true,List.all_eq_true]
   have e1:=e.1
   rw[qS,qb,qa,List.all_eq_true,hk,hl] at e1
   intro h hh;exact qI h (e1 h hh)
theorem B8 {ops:Array Oper} {pl:lY} {hs:List au} {c:List O5} {t:List Step} (h:po E ops pl c t) (e:qU c hs=true):qE E ops pl t hs=true:=by
 unfold qU at e
 rw[oB,Bool.and_eq_true,yQ,qS,h.made] at e
 unfold qE
 rw[Bool.and_eq_true]
 exact ⟨e.1,h.all e.2⟩
def DA (E:Env) (F:RF) (n:Nat) (ops:Array Oper) (pl:lY) (d:DO F.T) (t:jL):Prop:=match d with
 | .ok tr hs r h y=>∃KE,t= .ok KE hs ⟨eV F n r,h,y.ds,y.rc⟩∧po E ops pl tr KE
 | .bad=>True
theorem DA.skip {ops:Array Oper} {pl:lY} {d:DO F.T} {t:jL} (h:DA E F n ops pl d t) {x:Step} (hs:∀h,jr E ops x h=true) (hm:madeOf x.kind=none):DA E F n ops pl d (t.step x):=by
 cases d with
 | bad=>trivial
 | ok tr qI r h' y=>
   obtain ⟨KE,rfl,h2⟩:=h
   exact ⟨x::KE,rfl,.skip hs hm h2⟩
theorem DA.bound {ops:Array Oper} {pl:lY} {d:DO F.T} {t:jL} (h:DA E F n ops pl d t) (h0:au):DA E F n ops pl (qT h0 d) (t.bound h0):=by
 cases d with
 | bad=>trivial
 | ok tr qI r h' y=>
   obtain ⟨KE,rfl,h2⟩:=h
   exact ⟨KE,rfl,h2⟩
theorem DA.Xq {ops:Array Oper} {pl:lY} {d:DO F.T} {t:jL} (h:DA E F n ops pl d t) {x:Step} {c:O5} (hk:c.k=x.k) (hl:c.m=j0 pl.bR pl.an x.i+1 - x.k)
 (hm:madeOf x.kind=c.made) (hs:∀h,c.f h=true→jr E ops x h=true):DA E F n ops pl (Eu c d) (t.step x):=by
 cases d with
 | bad=>trivial
 | ok tr qI r h' y=>
   obtain ⟨KE,rfl,h2⟩:=h
   exact ⟨x::KE,rfl,.Xq hk hl hm hs h2⟩
theorem Jc:∀(m:Nat) (x y:AV),B0 m x y=true→AV.same m x y=true
 | 0,_,_,e=>by cases e
 | m+1,x,y,e=>by
   have ih:=Jc m
   have all:∀(a b:List AV),leq (B0 m) a b=true→cL (AV.same m) a b=true:=by
    intro a
    induction a with
    | nil=>intro b;cases b<;>intro e<;>first | rfl | cases e
    | cons x tl ihl=>
      intro b
      cases b with
      | nil=>intro e;cases e
      | cons y tm=>
        intro e
        have e:bc (B0 m x y) (leq (B0 m) tl tm) false=true:=e
        rw[oB,Bool.and_eq_true] at e
        rw[cL,Bool.and_eq_true]
        exact ⟨ih _ _ e.1,ihl _ e.2⟩
   cases x with
   | int k a=>cases y with
     | int j b=>
       have e:bc (RM k j) (Ze a b) false=true:=e
       rw[oB,Bool.and_eq_true,Lu] at e
       rw[AV.same,Nz e.1,e.2];simp
     | _=>cases e
   | str a=>cases y with
     | str b=>
       have e:leq BT a b=true:=e
       rw[Lv] at e
       rw[AV.same];exact e
     | _=>cases e
   | ptr i o=>cases y with
     | ptr j p=>
       have e:bc (Nat.beq i j) (Nat.beq o p) false=true:=e
       rw[oB,Bool.and_eq_true] at e
       rw[AV.same,l7 e.1,l7 e.2];simp
     | _=>cases e
   | bool a=>cases y with
     | bool b=>
       have e:bc a b (vB b)=true:=e
       rw[AV.same]
       cases a<;>cases b<;>first | rfl | cases e
     | _=>cases e
   | agg a=>cases y with
     | agg b=>rw[AV.same];exact all a b e
     | _=>cases e
   | _=>exact e
theorem B9 (hn:n≤F.N) {fc call:bw} (hle:j7 fc call) (ops:Array Oper) (pl:lY):∀(l:List Nat) (k:Nat) (r:F.T) (h:au) (y:Y),
 DA E F n ops pl ((jk E F n ops pl l k).run fc r h y) (cQ E call ops l k ⟨eV F n r,h,y.ds,y.rc⟩)
 | [],k,r,h,y=>⟨[],rfl,.nil⟩
 | i::rest,k,r,h,y=>by
   have ih:=B9 hn hle ops pl rest
   rw[cQ]
   show DA E F n ops pl (D.run (ob ⟨fun _ _ _ _=> .bad⟩ (fun o=>wS F n o.dst fun s=>
    bc (pZ E o.op) (canon (k+1) fun k'=>zR F n ops o (Ns (uR E F n o.op) s (jk E F n ops pl rest k')) (Lt s (jk E F n ops pl rest k')))
     (canon (Bg pl.bR pl.an i+1 - k) fun m=>zR F n ops o (Nt k m (uR E F n o.op) s (jk E F n ops pl rest k)) (R2 s (jk E F n ops pl rest k)))) (iS ops.toList i)) fc r h y) _
   rw[gV,Array.getElem?_toList]
   cases ho:ops[i]? with
   | none=>trivial
   | some o=>
     have fZ:(ops.getD i default).op=o.op:=by rw[Array.getD_eq_getD_getElem?,ho];rfl
     simp only[W6,kZ,sK,Lp]
     obtain ⟨s,h1,hs⟩:=NF F n hn o.dst (fun s=>
      bc (fk E o.op) (zR F n ops o (Ns (uR E F n o.op) s (jk E F n ops pl rest (k+1))) (Lt s (jk E F n ops pl rest (k+1))))
      (zR F n ops o (Nt k (j0 pl.bR pl.an i+1 - k) (uR E F n o.op) s (jk E F n ops pl rest k)) (R2 s (jk E F n ops pl rest k))))
     rw[h1]
     have hk:=Ja (E:=E) (F:=F) (n:=n) o.op
     generalize uR E F n o.op=kd at hk
     cases he:fk E o.op with
     | true=>
       rw[jl,Jb hn,if_pos rfl]
       cases hw:cE ops (eV F n r) o with
       | false=>
         rw[if_neg (by simp)]
         show DA E F n ops pl (qT h ((jk E F n ops pl rest (k+1)).run fc (s AV.undef r) h y)) _
         simp only[hs]
         exact ((ih _ _ _ _).bound h).skip (fun _=>rfl) rfl
       | true=>
         rw[if_pos rfl]
         show DA E F n ops pl ((Ns kd s (jk E F n ops pl rest (k+1))).run fc r h y) _
         cases kd with
         | wr f=>
           show DA E F n ops pl (ob .bad (fun p=>qT h ((jk E F n ops pl rest (k+1)).run fc (s p.1 r) p.2 y)) (f r h)) _
           cases hf:f r h with
           | none=>trivial
           | some p=>
             simp only[hk.2 call r h y.rc o p rfl hf,hs]
             exact ((ih _ _ _ _).bound h).skip (fun _=>rfl) rfl
         | call g args=>
           show DA E F n ops pl (jd.rec (motive:=fun _=>DO F.T) (fun v h'=>qT h ((jk E F n ops pl rest (k+1)).run fc (s v r) h' y)) (fun _ _=> .bad) (fun _ _=> .bad) (fc g (args r) h)) _
           cases hc:fc g (args r) h with
           | fail _ _=>trivial
           | panic _ _=>trivial
           | ret v h'=>
             simp only[hk.2 call r h y.rc o rfl,(hle _ _ _).1 v h' hc,mG,hs]
             exact ((ih _ _ _ _).bound h).skip (fun _=>rfl) rfl
         | uw f=>
           show DA E F n ops pl (yv.rec (motive:=fun _=>DO F.T) (fun v h'=>qT h ((jk E F n ops pl rest (k+1)).run fc (s v r) h' y)) (fun _=> .bad) (fun _=> .bad) (fun _ _=> .bad) (fun _ _=> .bad) (f fc r h y.rc)) _
           have h2:=hk.2 fc call hle r h y.rc o rfl
           cases hf:f fc r h y.rc with
           | val v h'=>
             rw[hf] at h2
             have h2:dc E call (eV F n r) h y.rc o= .val v h':=h2
             simp only[h2,hs]
             exact ((ih _ _ _ _).bound h).skip (fun _=>rfl) rfl
           | _=>trivial
         | _=>trivial
     | false=>
       rw[dS,Jb hn,if_neg (by simp)]
       cases hw:cE ops (eV F n r) o with
       | false=>
         rw[if_neg (by simp)]
         show DA E F n ops pl ((jk E F n ops pl rest k).run fc (s AV.undef r) h y) _
         simp only[hs]
         exact (ih _ _ _ _).skip (fun _=>rfl) rfl
       | true=>
         rw[if_pos rfl]
         show DA E F n ops pl ((Nt k (j0 pl.bR pl.an i+1 - k) kd s (jk E F n ops pl rest k)).run fc r h y) _
         cases kd with
         | HX g=>
           simp only[hk r,hs]
           exact (ih _ _ _ _).skip (fun _=>rfl) rfl
         | gO f=>
           show DA E F n ops pl (ob .bad (fun v=>(jk E F n ops pl rest k).run fc (s v r) h y) (f r)) _
           cases hf:f r with
           | none=>trivial
           | some v=>
             simp only[hk r v hf,hs]
             exact (ih _ _ _ _).skip (fun _=>rfl) rfl
         | red f=>
           show DA E F n ops pl (ob .bad (fun v=>Eu ⟨k,_,none,fun h'=>ob false (fun v'=>B0 20 v' v) (f r h')⟩ ((jk E F n ops pl rest k).run fc (s v r) h y)) (f r h)) _
           cases hf:f r h with
           | none=>trivial
           | some v=>
             rcases hk r h v hf with q0 | ⟨q0,q1⟩
             · simp only[q0,hs]
               exact (ih _ _ _ _).Xq rfl rfl rfl fun h' _=>rfl
             simp only[q0,q1,hs]
             refine (ih _ _ _ _).Xq rfl rfl rfl fun h' e=>?_
             have e:ob false (fun v'=>B0 20 v' v) (f r h')=true:=e
             cases hf':f r h' with
             | none=>rw[hf'] at e;cases e
             | some v'=>
               rw[hf'] at e
               rcases hk r h' v' hf' with q2 | ⟨_,q3⟩
               · rw[q0] at q2;cases q2
               simp only[jr,fZ,q3]
               exact Jc 20 v' v e
         | si f=>
           obtain ⟨h3,h4,h5⟩:=hk
           show DA E F n ops pl (ob .bad (fun p=>ob .bad (fun h'=>Eu ⟨k,_,some h.nx,fun Nu=>ob false (fun o=>a_.same o p.1) (Nu.get h.nx)⟩ ((jk E F n ops pl rest k).run fc (s (p.2 h.nx) r) h' y)) (h.new p.1)) (f r)) _
           cases hf:f r with
           | none=>trivial
           | some p=>
             obtain ⟨obj,mk⟩:=p
             show DA E F n ops pl (ob .bad (fun h'=>Eu ⟨k,_,some h.nx,fun Nu=>ob false (fun o=>a_.same o obj) (Nu.get h.nx)⟩ ((jk E F n ops pl rest k).run fc (s (mk h.nx) r) h' y)) (h.new obj)) _
             cases hh:h.new obj with
             | none=>trivial
             | some h'=>
               simp only[h3,h4,h5 r _ hf,hh,hs]
               refine (ih _ _ _ _).Xq rfl rfl rfl fun Nu e=>?_
               have e:ob false (fun o=>a_.same o obj) (Nu.get h.nx)=true:=e
               cases hf':Nu.get h.nx with
               | none=>rw[hf'] at e;cases e
               | some o'=>
                 rw[hf'] at e
                 simp only[jr,hf']
                 exact e
         | _=>trivial
theorem Ss {fc call:bw} (hle:j7 fc call) {ts:List AV} {h h':au} {rc:RC} {dst:Option Tmp} {c:Call} {ty:TypeId} {pos:String} {after:Array Edge} {guard:Option (Nat×Bool)} {v:AV} (e:dc E fc ts h rc ⟨dst,.call c,ty,pos,after,guard⟩= .panic v h'):
 dc E call ts h rc ⟨dst,.call c,ty,pos,after,guard⟩= .panic v h':=by
 obtain ⟨cW,args,aT⟩:=c
 cases cW with
 | builtin b=>
   cases b<;>simp only[dc] at e<;>(try (simp at e;done))<;>(split at e<;>(try (simp at e;done))<;>(try (split at e<;>simp at e)))
 | value f=>
   simp only[dc] at e ⊢
   split at e
   · split at e
     · split at e<;>simp at e
     · split at e
       · simp at e
       · rename_i hc
         simp at e;obtain ⟨rfl,rfl⟩:=e
         simp only[(hle _ _ _).2 _ _ hc]
       · simp at e
   · simp at e
 | invoke x name=>
   simp only[dc] at e ⊢
   split at e
   · split at e
     · split at e
       · simp at e
       · rename_i hc
         simp at e;obtain ⟨rfl,rfl⟩:=e
         simp only[(hle _ _ _).2 _ _ hc]
       · simp at e
     · simp at e
   · simp at e
theorem po.snoc {ops:Array Oper} {pl:lY} {c:List O5} {t:List Step} (h:po E ops pl c t) {x:Step} (hs:∀h,jr E ops x h=true) (hm:madeOf x.kind=none):po E ops pl c (t++[x]):=by
 induction h with
 | nil=>exact .skip hs hm .nil
 | skip a b _ ih=>exact .skip a b ih
 | Xq a b d e _ ih=>exact .Xq a b d e ih
theorem Xr (hn:n≤F.N) {fc call:bw} (hle:j7 fc call) (ops:Array Oper) (pl:lY) (r:F.T) (h:au) (y:Y):
 rV E F n (W3 E F n ops pl fc r h y) (match cQ E call ops pl.order 0 ⟨eV F n r,h,y.ds,y.rc⟩ with
  | .ok tr hs s'=>if qE E ops pl tr hs then .ok .normal s' else .fail "still" (ops[0]?)
  | .fail why o=>match Br E call ops ⟨eV F n r,h,y.ds,y.rc⟩ pl with
    | some (v,s2)=> .ok (.panic v) s2
    | none=> .fail why o):=by
 unfold W3
 split
 · trivial
 rename_i i front WH
 split
 · rename_i tr hs r1 h1 y1 dst c ty pos after guard hd ho
   split
   · rename_i v h' FZ Rv
     split
     · rename_i hl
       have hk:=B9 (E:=E) hn hle ops pl front.reverse 0 r h y
       rw[hd] at hk
       obtain ⟨KE,e1,e2⟩:=hk
       have Rr:pl.order=front.reverse++[i]:=by
        have:=congrArg List.reverse WH
        simpa using this
       have adN:=Ss hle Rv
       have ON:=FZ
       simp only[Bool.and_eq_true] at ON
       obtain ⟨why,q,e3⟩:=yI ho ON.1.1 front.reverse 0 _ e1 ON.1.2 adN
       rw[Rr,e3]
       have Rw:Br E call ops ⟨eV F n r,h,y.ds,y.rc⟩ pl=some (v,⟨eV F n r1,h',y1.ds,y1.rc⟩):=by
        unfold Br
        rw[WH]
        simp only[e1,ho,FZ,if_true,adN]
        rw[if_pos (B8 (e2.snoc (fun _=>rfl) rfl) hl)]
       simp only[Rw]
       exact ⟨by simp,rfl⟩
     · trivial
   · trivial
 · trivial
theorem Su (hn:n≤F.N) {fc call:bw} (hle:j7 fc call) (ops:Array Oper) (r:F.T) (h:au) (y:Y):
 rV E F n ((Nw E F n ops).run fc r h y) (wh E call ops ⟨eV F n r,h,y.ds,y.rc⟩):=by
 unfold Nw wh
 rw[RW]
 cases sh E ops with
 | none=>trivial
 | some pl=>
   show rV E F n (DO.rec (motive:=fun _=>FO F.T) (fun tr hs r' h' y'=>bc (qU tr hs) (.IY r' h' y') .bad) (W3 E F n ops pl fc r h y) ((jk E F n ops pl pl.order 0).run fc r h y)) _
   have:=B9 (E:=E) hn hle ops pl pl.order 0 r h y
   cases hd:(jk E F n ops pl pl.order 0).run fc r h y with
   | bad=>exact Xr hn hle ops pl r h y
   | ok tr hs r' h' y'=>
     rw[hd] at this
     obtain ⟨KE,h1,h2⟩:=this
     show rV E F n (bc (qU tr hs) (.IY r' h' y') .bad) _
     cases hl:qU tr hs with
     | false=>trivial
     | true=>
       simp only[h1]
       rw[if_pos (B8 h2 hl)]
       rfl
end Go.Ab.Fa
end
section
namespace Go.Ab.Fa
variable {E:Env} {F:RF} {n:Nat}
theorem Jd {fc call:bw} (hle:j7 fc call) {f:Operand} {ps:Array Tmp} {as_ bd:Code} {s:St} {e:hZ} {s':St} (h:lh E fc f ps as_ bd s= .ok e s'):lh E call f ps as_ bd s= .ok e s':=by
 unfold lh at h ⊢
 split at h
 case h_2=>cases h
 rename_i g first captured hv
 split at h
 case h_2=>cases h
 rename_i dn h1 ds1 ho
 split at h
 case h_2=>cases h
 rename_i h2 hn
 cases hc:fc (.fn g) (first++[.cM h1.nx]++captured) h2 with
 | ret v h3=>rw[hc] at h;rw[(hle _ _ _).1 _ _ hc];exact h
 | panic v h3=>rw[hc] at h;rw[(hle _ _ _).2 _ _ hc];exact h
 | fail why q=>rw[hc] at h;cases h
theorem Pd {call:bw} {f:Operand} {ps:Array Tmp} {as_ bd:Code} {s:St} {e:hZ} {s':St} (h:lh E call f ps as_ bd s= .ok e s'):s'.ts=s.ts:=by
 unfold lh at h
 split at h
 case h_2=>cases h
 split at h
 case h_2=>cases h
 split at h
 case h_2=>cases h
 split at h
 · split at h
   · cases h
   · split at h
     · simp only[Out.ok.injEq] at h;rw[←h.2]
     · cases h
   · cases h
 · simp only[Out.ok.injEq] at h;rw[←h.2]
 · cases h
theorem Sv {o:FO F.T} {out:Out} (h:rV E F n o out) {k:F.T→au→Y→FO F.T} {g:St→Out} (hk:∀r h y,rV E F n (k r h y) (g ⟨eV F n r,h,y.ds,y.rc⟩)):
 rV E F n (fo k .jmp .bad o) (match (generalizing:=false) out with | .ok .normal s'=>g s' | r=>r):=by
 cases o with
 | IY r h' y=>rw[show out=_ from h];exact hk r h' y
 | jmp e r h' y=>
   obtain ⟨h1,h2⟩:=h
   rw[h2]
   cases e with
   | normal=>exact absurd rfl h1
   | _=>exact ⟨by simp,rfl⟩
 | bad=>trivial
theorem lu (hn:n≤F.N) {fc call:bw} (hle:j7 fc call):∀(c:Code) (m:Nat) (r:F.T) (h:au) (y:Y),
 rV E F n ((mH E F n c).run m fc r h y) (exec E call m c ⟨eV F n r,h,y.ds,y.rc⟩)
 | .skip,m,r,h,y=>by cases m with
   | zero=>trivial
   | succ m=>exact rfl
 | .label _,m,r,h,y=>by cases m with
   | zero=>trivial
   | succ m=>exact rfl
 | .ret,m,r,h,y=>by cases m with
   | zero=>trivial
   | succ m=>exact ⟨by simp,rfl⟩
 | .exit id,m,r,h,y=>by cases m with
   | zero=>trivial
   | succ m=>exact ⟨by simp,rfl⟩
 | .region _ ops draw,m,r,h,y=>by
   cases m with
   | zero=>cases draw<;>trivial
   | succ m=>cases draw with
     | true=>exact Su hn hle ops r h y
     | false=>exact B7 hn hle ops ops.toList r h y
 | .seq a b,m,r,h,y=>by cases m with
   | zero=>trivial
   | succ m=>
     have h1:=lu hn hle a m r h y
     have h2:=lu hn hle b m
     exact Sv h1 (g:=fun s'=>exec E call m b s') h2
 | .cond x a b,m,r,h,y=>by
   have ha:=lu hn hle a
   have hb:=lu hn hle b
   show rV E F n (C.run (wO E F n x (fun g=>⟨fun m call r h y=>nS .bad (fun i=>jt (fun t=>bc t ((mH E F n a).run i call r h y) ((mH E F n b).run i call r h y)) .bad (g r)) m⟩) ⟨fun _ _ _ _ _=> .bad⟩) m fc r h y) _
   rcases b6 E F n x (fun g=>(⟨fun m call r h y=>nS .bad (fun i=>jt (fun t=>bc t ((mH E F n a).run i call r h y) ((mH E F n b).run i call r h y)) .bad (g r)) m⟩:C F.T)) ⟨fun _ _ _ _ _=> .bad⟩ with hw | ⟨g,hw,hg⟩<;>rw[hw]
   · trivial
   cases m with
   | zero=>trivial
   | succ m=>
     show rV E F n (jt (fun t=>bc t ((mH E F n a).run m fc r h y) ((mH E F n b).run m fc r h y)) .bad (g r)) _
     rw[exec]
     simp only[hg]
     cases g r with
     | bool t=>cases t with
       | true=>exact ha m r h y
       | false=>exact hb m r h y
     | _=>trivial
 | .block id b,m,r,h,y=>by cases m with
   | zero=>trivial
   | succ m=>
     have hb:=lu hn hle b m r h y
     show rV E F n (fo .IY (fun e r' h' y'=>R4 (fun j=>bc (Nat.beq j id) (.IY r' h' y') (.jmp e r' h' y')) (.jmp e r' h' y') e) .bad ((mH E F n b).run m fc r h y)) _
     rw[exec]
     cases hr:(mH E F n b).run m fc r h y with
     | bad=>trivial
     | IY r' h' y'=>
       rw[hr] at hb
       have hb:exec E call m b _= .ok .normal ⟨eV F n r',h',y'.ds,y'.rc⟩:=hb
       rw[hb];exact rfl
     | jmp e r' h' y'=>
       rw[hr] at hb
       obtain ⟨h1,h2⟩:=hb
       rw[h2]
       cases e with
       | normal=>exact absurd rfl h1
       | exit j=>
         show rV E F n (bc (Nat.beq j id) (.IY r' h' y') (.jmp (.exit j) r' h' y')) (if j=id then _ else _)
         cases hj:Nat.beq j id with
         | true=>rw[if_pos (l7 hj)];exact rfl
         | false=>rw[if_neg (by intro e;rw[e,Nat.beq_refl] at hj;cases hj)];exact ⟨by simp,rfl⟩
       | ret=>exact ⟨by simp,rfl⟩
       | panic v=>exact ⟨by simp,rfl⟩
 | .loop b,m,r,h,y=>by
   have hb:=lu hn hle b
   show rV E F n (R5 (mH E F n b) m fc r h y) _
   induction m generalizing r h y with
   | zero=>trivial
   | succ m ih=>
     show rV E F n (fo (fun r' h' y'=>R5 (mH E F n b) m fc r' h' y') .jmp .bad ((mH E F n b).run m fc r h y)) _
     exact Sv (hb m r h y) (g:=fun s'=>exec E call m (.loop b) s') ih
 | .rangeFunc f ps as_ bd,m,r,h,y=>by
   show rV E F n ((W5 (Gt E F n f ps as_ bd)).run m fc r h y) _
   cases m with
   | zero=>trivial
   | succ m=>
     show rV E F n ((Gt E F n f ps as_ bd).run fc r h y) (lh E call f ps as_ bd ⟨eV F n r,h,y.ds,y.rc⟩)
     unfold Gt
     rcases b6 E F n f (fun _=>(⟨fun call r h y=>Zl r (lh E call f ps as_ bd ⟨eV F n r,h,y.ds,y.rc⟩)⟩:I F.T)) ⟨fun _ _ _ _=> .bad⟩ with hw | ⟨g,hw,_⟩<;>rw[hw]
     · trivial
     simp only
     cases hr:lh E fc f ps as_ bd ⟨eV F n r,h,y.ds,y.rc⟩ with
     | fail _ _=>trivial
     | ok e s=>
       rw[Jd hle hr]
       have ht:=Pd hr
       obtain ⟨ts,hh,ds,rc⟩:=s
       simp only at ht
       subst ht
       cases e with
       | normal=>exact rfl
       | _=>exact ⟨by simp,rfl⟩
 | .scope b,m,r,h,y=>by cases m with
   | zero=>trivial
   | succ m=>exact lu hn hle b m r h y
 | .goto _,m,r,h,y=>trivial
 | .refuse _,m,r,h,y=>trivial
theorem wY:∀(l:List ResultVar) (r:F.T) (h:au) (vs:List AV),(yS E F n l).f r h=some vs→jM E h (eV F n r) l=some vs
 | [],r,h,vs,e=>e
 | .tmp t::rest,r,h,vs,e=>by
   rw[yS] at e
   obtain ⟨g,h1,h2⟩:=Gw F n t (fun g=>wW (yS E F n rest) fun k=>(⟨fun r h=>ob none (fun vs=>some (g r::vs)) (k r h)⟩:W (F.T→au→Option (List AV))))
   rw[h1] at e
   obtain ⟨qJ,h3,h4⟩:=gL (show ob none (fun vs=>some (g r::vs)) ((yS E F n rest).f r h)=some vs from e)
   rw[jM]
   simp only[h2,wY rest r h qJ h3]
   exact h4
 | .cell a t::rest,r,h,vs,e=>by
   rw[yS] at e
   obtain ⟨g,h1,h2⟩:=Gw F n a (fun g=>wW (yS E F n rest) fun k=>(⟨fun r h=>ob none (fun v=>ob none (fun vs=>some (v::vs)) (k r h)) (bG E h t (g r))⟩:W (F.T→au→Option (List AV))))
   rw[h1] at e
   obtain ⟨v,h3,h4⟩:=gL (show ob none (fun v=>ob none (fun vs=>some (v::vs)) ((yS E F n rest).f r h)) (bG E h t (g r))=some vs from e)
   obtain ⟨qJ,h5,h6⟩:=gL h4
   rw[jM]
   simp only[h2,h3,wY rest r h qJ h5]
   exact h6
def BOk (E:Env) (rs:List ResultVar) (b:BO) (out:Out):Prop:=match b with
 | .fin res h y=>∃e ts,(e= .normal∨e= .ret)∧out= .ok e ⟨ts,h,y.ds,y.rc⟩∧∀h' vs,res h'=some vs→jM E h' ts rs=some vs
 | .pan v res h y=>∃ts,out= .ok (.panic v) ⟨ts,h,y.ds,y.rc⟩∧∀h' vs,res h'=some vs→jM E h' ts rs=some vs
 | .bad=>True
theorem Je {fc call:bw} (hle:j7 fc call) (F:RF) (fn:Func) (hn:fn.ntmps≤F.N) (b:Code) (fuel:Nat) (args:List AV) (h:au) (rc:RC):
 BOk E fn.results.toList ((R6 E F fn.ntmps fn b).run fuel fc args h rc) (mD E call fuel fn b args h rc):=by
 show BOk E _ (bc (Nat.ble (iR args) fn.ntmps)
  (fo (fun r h' y=> .fin ((yS E F fn.ntmps fn.results.toList).f r) h' y) (fun e r h' y=>hZ.rec (motive:=fun _=>BO) .bad (fun _=> .bad) (.fin ((yS E F fn.ntmps fn.results.toList).f r) h' y) (fun v=> .pan v ((yS E F fn.ntmps fn.results.toList).f r) h' y) e) .bad
   ((mH E F fn.ntmps b).run fuel fc (QO F args F.z 0) h ⟨[],rc⟩)) .bad) _
 cases hl:Nat.ble (iR args) fn.ntmps with
 | false=>trivial
 | true=>
   have hl:=fA hl
   rw[fL] at hl
   have:=lu (E:=E) hn hle b fuel (QO F args F.z 0) h ⟨[],rc⟩
   rw[Nj F fn.ntmps hn args hl] at this
   rw[jl]
   unfold mD
   cases hr:(mH E F fn.ntmps b).run fuel fc (QO F args F.z 0) h ⟨[],rc⟩ with
   | bad=>trivial
   | IY r h' y=>
     rw[hr] at this
     exact ⟨.normal,_,.inl rfl,this,fun Nu vs e=>wY _ r Nu vs e⟩
   | jmp e r h' y=>
     rw[hr] at this
     obtain ⟨h1,h2⟩:=this
     cases e with
     | normal=>exact absurd rfl h1
     | exit _=>trivial
     | ret=>exact ⟨.ret,_,.inr rfl,h2,fun Nu vs e=>wY _ r Nu vs e⟩
     | panic v=>exact ⟨_,h2,fun Nu vs e=>wY _ r Nu vs e⟩
theorem Jf {fc call:bw} (hle:j7 fc call) (f:FuncId) (fuel:Nat) (args:List AV) (h:au) (rc:RC):
 (zS E f).run fuel fc args h rc= .bad∨∃fn b,E.P.funcs[f]? =some fn∧fn.body=some b∧BOk E fn.results.toList ((zS E f).run fuel fc args h rc) (mD E call fuel fn b args h rc):=by
 unfold zS
 rw[WW]
 cases hf:E.P.funcs[f]? with
 | none=>exact .inl rfl
 | some fn=>
   simp only
   cases hb:fn.body with
   | none=>exact .inl rfl
   | some b=>
     refine .inr ⟨fn,b,rfl,hb,?_⟩
     simp only
     cases h1:Nat.ble fn.ntmps 64 with
     | true=>exact Je hle rf2 fn (fA h1) b fuel args h rc
     | false=>cases h2:Nat.ble fn.ntmps 512 with
       | true=>exact Je hle rf3 fn (fA h2) b fuel args h rc
       | false=>trivial
theorem sN {fc call:bw} (hle:j7 fc call) {fuel:Nat} {c:Code} {s:St} {e:hZ} {s':St} (h:Ny E fc fuel c s= .ok e s'):exec E call fuel c s= .ok e s':=by
 have key:∀F:RF,s.ts.length≤F.N→Nx E F fc fuel c s= .ok e s'→exec E call fuel c s= .ok e s':=by
  intro F hn hx
  have:=lu (E:=E) hn hle c fuel (QO F s.ts F.z 0) s.h ⟨s.ds,s.rc⟩
  rw[Nj F s.ts.length hn s.ts (Nat.le_refl _),Nat.sub_self,List.replicate_zero,List.append_nil] at this
  unfold Nx at hx
  cases hr:(mH E F s.ts.length c).run fuel fc (QO F s.ts F.z 0) s.h ⟨s.ds,s.rc⟩ with
  | bad=>rw[hr] at hx;cases hx
  | IY r h' y=>rw[hr] at hx this;rw[show exec E call fuel c s=_ from this];exact hx
  | jmp e' r h' y=>rw[hr] at hx this;rw[show exec E call fuel c s=_ from this.2];exact hx
 unfold Ny at h
 cases h1:Nat.ble s.ts.length 64 with
 | true=>rw[h1] at h;exact key rf2 (fA h1) h
 | false=>cases h2:Nat.ble s.ts.length 512 with
   | true=>rw[h1,h2] at h;exact key rf3 (fA h2) h
   | false=>rw[h1,h2] at h;cases h
noncomputable def GG (E:Env) (call:bw) (fuel:Nat) (g:FuncId) (as_:List AV) (h:au) (rc:RC):Option (au×RC):=match E.P.funcs[g]? with
 | none=>none
 | some fg=>match fg.body with
   | none=>none
   | some bg=>match mD E call fuel fg bg as_ h rc with
     | .ok .normal s'=>if s'.ds.isEmpty&&(jM E s'.h s'.ts fg.results.toList).isSome then some (s'.h,s'.rc) else none
     | .ok .ret s'=>if s'.ds.isEmpty&&(jM E s'.h s'.ts fg.results.toList).isSome then some (s'.h,s'.rc) else none
     | _=>none
theorem Sw {fc call:bw} (hle:j7 fc call) {fuel:Nat} {g:FuncId} {as_:List AV} {h:au} {rc:RC} {p:au×RC} (e:h_ E fc fuel g as_ h rc=some p):GG E call fuel g as_ h rc=some p:=by
 unfold h_ at e
 rcases Jf (E:=E) hle g fuel as_ h rc with h1 | ⟨fn,b,h1,h2,h3⟩
 · rw[h1] at e;cases e
 · unfold GG
   rw[h1];simp only;rw[h2];simp only
   cases hr:(zS E g).run fuel fc as_ h rc with
   | bad=>rw[hr] at e;cases e
   | pan v res h' y=>rw[hr] at e;cases e
   | fin res h' y=>
     rw[hr] at e h3
     obtain ⟨x,ts,h4,h5,h6⟩:=h3
     obtain ⟨h7,e1⟩:=fu (show bc y.ds.isEmpty (ob none (fun _=>some (h',y.rc)) (res h')) none=some p from e)
     obtain ⟨vs,h8,e2⟩:=gL e1
     rw[h5]
     rcases h4 with rfl | rfl
     · simp only[h7,h6 h' vs h8,Option.isSome_some,Bool.and_self,if_true];exact e2
     · simp only[h7,h6 h' vs h8,Option.isSome_some,Bool.and_self,if_true];exact e2
theorem ly {f g:FuncId→List AV→au→RC→Option (au×RC)} (hfg:∀k as_ h rc p,f k as_ h rc=some p→g k as_ h rc=some p):∀(ds:List od) (p:Option AV) (h:au) {q:Option AV×au},cJ f ds p h=some q→cJ g ds p h=some q
 | [],p,h,q,e=>by cases p<;>exact e
 | .rQ r::ds,p,h,q,e=>by
   rw[cJ] at e ⊢
   split at e
   · exact ly hfg ds p _ e
   · cases e
 | .call k as_::ds,none,h,q,e=>by
   rw[cJ] at e ⊢
   cases hf:f k as_ h .no with
   | none=>rw[hf] at e;cases e
   | some p=>rw[hf] at e;rw[hfg _ _ _ _ _ hf];obtain ⟨h',WK⟩:=p;exact ly hfg ds none h' e
 | .call k as_::ds,some v,h,q,e=>by
   rw[cJ] at e ⊢
   cases hf:f k as_ h (.hQ v) with
   | none=>rw[hf] at e;cases e
   | some p=>
     rw[hf] at e;rw[hfg _ _ _ _ _ hf];obtain ⟨h',WK⟩:=p
     cases WK with
     | hQ w=>exact ly hfg ds _ h' e
     | done=>exact ly hfg ds _ h' e
     | _=>cases e
theorem Pe {fc call:bw} (hle:j7 fc call) (fuel:Nat) (l:Nat) (args:List AV) (h:au):(∀v h',B1 E fc fuel l args h= .ret v h'→qF E call fuel l args h= .ret v h')∧∀v h',B1 E fc fuel l args h= .panic v h'→qF E call fuel l args h= .panic v h':=by
 have key:∀out:jd,(∀why o,out≠ .fail why o)→B1 E fc fuel l args h=out→qF E call fuel l args h=out:=by
  intro out pS e
  unfold B1 at e
  unfold qF
  split at e
  case h_2=>exact absurd e.symm (pS _ _)
  rename_i st pd ts ps as_ bd dn hg
  rw[hg]
  simp only
  by_cases ha:args.length=ps.length
  · rw[if_pos ha] at e ⊢
    split at e
    · rename_i s1 h1
      rw[sN hle h1]
      simp only
      split at e
      · rename_i pd VY Q0 QC VZ V0 hg2
        rw[hg2]
        simp only
        split at e
        · rename_i s2 h2;rw[sN hle h2];exact e
        · rename_i s2 h2;rw[sN hle h2];exact e
        · rename_i id s2 h2;rw[sN hle h2];exact e
        · rename_i v s2 h2;rw[sN hle h2];exact e
        · exact absurd e.symm (pS _ _)
      · exact absurd e.symm (pS _ _)
    · exact absurd e.symm (pS _ _)
    · exact absurd e.symm (pS _ _)
  · rw[if_neg ha] at e;exact absurd e.symm (pS _ _)
 exact ⟨fun v h' e=>key _ (by simp) e,fun v h' e=>key _ (by simp) e⟩
noncomputable def Sx (E:Env) (call:bw) (fuel:Nat) (fn:Func) (p:Option AV) (s:St):jd:=match cJ (GG E call fuel) s.ds p s.h with
 | none=> .fail "unwind" none
 | some (some v,h')=> .panic v h'
 | some (none,h')=>match jM E h' s.ts fn.results.toList with
   | some vs=> .ret (fY vs) h'
   | none=> .fail "results" none
theorem Lz (d fuel:Nat) {f:FuncId} {fn:Func} {b:Code} (hf:E.P.funcs[f]? =some fn) (hb:fn.body=some b) (args:List AV) (h:au):
 gI E (d+1) fuel (.fn f) args h=(match mD E (gI E d fuel) fuel fn b args h .no with
  | .ok .normal s=>Sx E (gI E d fuel) fuel fn none s
  | .ok .ret s=>Sx E (gI E d fuel) fuel fn none s
  | .ok (.panic v) s=>Sx E (gI E d fuel) fuel fn (some v) s
  | .ok (.exit _) _=> .fail "exit" none
  | .fail why o=> .fail (why++ " in " ++fn.name) o):=by
 rw[gI]
 simp only[hf,hb]
 rfl
theorem NI {fc call:bw} (hle:j7 fc call) {fuel:Nat} {fn:Func} {p:Option AV} {res:au→Option (List AV)} {ts:List AV} {h:au} {y:Y} (DJ:∀h' vs,res h'=some vs→jM E h' ts fn.results.toList=some vs) {out:jd} (ho:∀why o,out≠ .fail why o)
 (e:I3 (p.elim (ob (.fail "results" none) (fun vs=>jd.ret (fY vs) h) (res h)) (fun v=> .panic v h)) (I2 E fc fuel p res h y.ds) y.ds=out):Sx E call fuel fn p ⟨ts,h,y.ds,y.rc⟩=out:=by
 unfold Sx
 cases hd:y.ds with
 | nil=>
   rw[hd] at e
   cases p with
   | some v=>exact e
   | none=>
     have e:ob (.fail "results" none) (fun vs=>jd.ret (fY vs) h) (res h)=out:=e
     cases hr:res h with
     | none=>rw[hr] at e;exact absurd e.symm (ho _ _)
     | some vs=>
       rw[hr] at e
       simp only[cJ,DJ h vs hr]
       exact e
 | cons d ds=>
   rw[hd] at e
   have e:I2 E fc fuel p res h (d::ds)=out:=e
   unfold I2 at e
   cases hu:cJ (h_ E fc fuel) (d::ds) p h with
   | none=>rw[hu] at e;exact absurd e.symm (ho _ _)
   | some q=>
     rw[hu] at e
     have:=ly (g:=GG E call fuel) (fun k as_ h rc p e=>Sw hle e) (d::ds) p h hu
     simp only[this]
     obtain ⟨q1,h'⟩:=q
     cases q1 with
     | some v=>exact e
     | none=>
       have e:ob (.fail "results" none) (fun vs=>jd.ret (fY vs) h') (res h')=out:=e
       cases hr:res h' with
       | none=>rw[hr] at e;exact absurd e.symm (ho _ _)
       | some vs=>rw[hr] at e;simp only[DJ h' vs hr];exact e
theorem Jg (fuel:Nat):∀d,j7 (zT E d fuel) (gI E d fuel)
 | 0=>fun _ _ _=>⟨fun _ _ e=>(by cases e),fun _ _ e=>(by cases e)⟩
 | d+1=>by
   have ih:=Jg fuel d
   intro g args h
   cases g with
   | vk l=>exact Pe ih fuel l args h
   | fn f=>
     have key:∀out:jd,(∀why o,out≠ .fail why o)→zT E (d+1) fuel (.fn f) args h=out→gI E (d+1) fuel (.fn f) args h=out:=by
      intro out ho e
      have e:bo (fun res h' y=>I3 (ob (.fail "results" none) (fun vs=>jd.ret (fY vs) h') (res h')) (I2 E (zT E d fuel) fuel none res h' y.ds) y.ds)
       (fun v res h' y=>I3 (.panic v h') (I2 E (zT E d fuel) fuel (some v) res h' y.ds) y.ds) (.fail "body" none) ((zS E f).run fuel (zT E d fuel) args h .no)=out:=e
      rcases Jf (E:=E) ih f fuel args h .no with h1 | ⟨fn,b,h1,h2,h3⟩
      · rw[h1] at e;exact absurd e.symm (ho _ _)
      · rw[Lz d fuel h1 h2]
        cases hr:(zS E f).run fuel (zT E d fuel) args h .no with
        | bad=>rw[hr] at e;exact absurd e.symm (ho _ _)
        | fin res h' y=>
          rw[hr] at e h3
          obtain ⟨x,ts,h4,h5,h6⟩:=h3
          have:=NI (E:=E) ih (fn:=fn) (p:=none) h6 ho e
          rw[h5]
          rcases h4 with rfl | rfl<;>exact this
        | pan v res h' y=>
          rw[hr] at e h3
          obtain ⟨ts,h5,h6⟩:=h3
          have:=NI (E:=E) ih (fn:=fn) (p:=some v) h6 ho e
          rw[h5];exact this
     exact ⟨fun v h' e=>key _ (by simp) e,fun v h' e=>key _ (by simp) e⟩
theorem B_ {d fuel:Nat} {f:FuncId} {args:List AV} {h h':au} {v:AV} (e:zT E d fuel (.fn f) args h= .ret v h'):gI E d fuel (.fn f) args h= .ret v h':=
 (Jg fuel d _ _ _).1 v h' e
end Go.Ab.Fa
end
section
namespace Go.Ab
structure ai9 (P:Program) (f:FuncId) (e:Array Value→Sem Value):Prop where
 at':∃fn,P.funcs[f]? =some fn∧(fn.name== "runtime.NumGoroutine")=false∧fn.body.isNone=true∧Extern.findNext fn=none∧Extern.find fn=some e
section
open Fa
noncomputable def l3 {R:Type} (f:AV→AV→AV→R) (d:R) (l:List AV):R:=
 List.rec (motive:=fun _=>R) d (fun a tl _=>List.rec (motive:=fun _=>R) d (fun b tl _=>List.rec (motive:=fun _=>R) d (fun c tl _=>List.rec (motive:=fun _=>R) (f a b c) (fun _ _ _=>d) tl) tl) tl) l
noncomputable def l2 {R:Type} (f:AV→AV→R) (d:R) (l:List AV):R:=
 List.rec (motive:=fun _=>R) d (fun a tl _=>List.rec (motive:=fun _=>R) d (fun b tl _=>List.rec (motive:=fun _=>R) (f a b) (fun _ _ _=>d) tl) tl) l
noncomputable def n3 (f:Nat→Nat→Nat→Option AV):List AV→Option AV:=
 l3 (fun a b c=>ox (fun _ x=>ox (fun _ y=>ox (fun _ z=>kD (fun x=>kD (fun y=>kD (fun z=>f x y z) none z) none y) none x) none c) none b) none a) none
end
open Fa
end Go.Ab
end
section
namespace Go.Ab
open Go.Maps Go.WideElems Go.RowKit Go.Proofs
section
open Fa
noncomputable def l1 {R:Type} (f:AV→R) (d:R) (l:List AV):R:=List.rec (motive:=fun _=>R) d (fun a tl _=>List.rec (motive:=fun _=>R) (f a) (fun _ _ _=>d) tl) l
end
open Fa
theorem OK.later {E:Env} {φ:Ph} {h:au} {w w':World} (ok:OK E φ h w) (b:Below w.heap.size w w'):OK E φ h w'∧Fr φ h w φ h w':=by
 have hblk:∀j p m,h.get j=some p→φ j=some m→m.dY<w.heap.size:=fun j p m hj hm=>by
  have Bf:=ok.live j p m hj hm
  rcases Nat.lt_or_ge m.dY w.heap.size with a | a
  · exact a
  · exfalso
    rw[Array.getElem?_eq_none a] at Bf
    exact Bf.absurd
 refine ⟨⟨ok.AO,ok.nx,ok.vl,fun i o l h1 h2=>?_,ok.inj⟩,⟨Ph.le_refl φ,fun _ _=>rfl,Nat.le_refl _,b.os,b.tape,b.output,b.size,fun c hc _=>b.block c hc,fun i o l h1 h2 h3=> .inr ⟨i,o,l,h1,h2,h3,rfl⟩⟩⟩
 rw[b.block _ (hblk i o l h1 h2)]
 exact ok.live i o l h1 h2
end Go.Ab
end
section
namespace Go.Ab
structure Xs where
 g:Nat
 k:IntKind
 ns:List Nat
 t:TypeId
def Xs.cells (x:Xs):List AV:=x.ns.map fun n=>AV.int x.k (Int.ofNat n)
noncomputable def lz (G:Nat):List Xs→au
 | []=>⟨HT.nil,G,fun _=>none⟩
 | x::xs=>(lz G xs).put x.g (some (.cells x.cells x.t true))
theorem NJ (i:Nat) (G:Nat):(au.mk HT.nil G fun _=>none).get i=none:=by
 by_cases hi:i<262144
 · rw[au.vm hi]
   rw[Bu hi,yw,Bt]
   simp only[HT.nil,Ba]
 · rw[au.qG hi]
theorem yW (G:Nat):∀l,(lz G l).nx=G
 | []=>rfl
 | _::xs=>yW G xs
theorem qX {G:Nat}:∀{l:List Xs} {i:Nat} {o:a_},(lz G l).get i=some o→∃x∈l,x.g=i∧o= .cells x.cells x.t true
 | [],i,o,e=>by rw[lz,NJ] at e;cases e
 | x::xs,i,o,e=>by
   rw[lz] at e
   by_cases h:x.g=i
   · subst h
     rw[au.bS] at e
     exact ⟨x,by simp,rfl,(Option.some.inj e).symm⟩
   · rw[au.bA h] at e
     obtain ⟨y,hy,h1,h2⟩:=qX e
     exact ⟨y,by simp [hy],h1,h2⟩
def adP (w:World) (x:Xs):Prop:=∃C e fz,w.heap[x.g]? =some (.cells C e fz)∧C.toList=x.ns.map fun n=>Value.int x.k (Int.ofNat n)
def Zp (G:Nat):Ph:=fun i=>if i<G then some ⟨i,0,0⟩ else none
theorem OK.begin {E:Env} {w:World} {l:List Xs} (hl:∀x∈l,x.g<E.G∧adP w x):OK E (Zp E.G) (lz E.G l) w:=by
 refine ⟨fun i l' h=>?_,?_,fun g hg=>?_,fun i o l' h1 h2=>?_,fun i j o p l' m _ _ h3 h4 _ h5=>?_⟩
 · unfold Zp at h;rw[yW];split at h
   · assumption
   · cases h
 · rw[yW];exact Nat.le_refl _
 · unfold Zp;rw[if_pos hg]
 · obtain ⟨x,hx,rfl,rfl⟩:=qX h1
   obtain ⟨hg,C,e,⟨lo,hi⟩,hw,hC⟩:=hl x hx
   unfold Zp at h2;rw[if_pos hg] at h2
   obtain rfl:=Option.some.inj h2
   refine ⟨C,e,lo,hi,hw,⟨?_,?_,(fun h=>by cases h),fun _ _ _=>rfl⟩,fun z=>by cases z⟩
   · have:C.size=x.ns.length:=by rw[←Array.length_toList,hC,List.length_map]
     simp [Xs.cells,ft,this]
   · intro k y hk
     simp only[Xs.cells,List.getElem?_map,Option.map_eq_some_iff] at hk
     obtain ⟨n,hn,rfl⟩:=hk
     refine ⟨.int x.k (Int.ofNat n),?_,.int _ _⟩
     rw[Nat.zero_add,←Array.getElem?_toList,hC,List.getElem?_map,hn];rfl
 · unfold Zp at h3 h4
   split at h3
   · split at h4
     · obtain rfl:=Option.some.inj h3
       obtain rfl:=Option.some.inj h4
       exact h5
     · cases h4
   · cases h3
noncomputable def wZ (o:jd):Bool:=jd.rec (motive:=fun _=>Bool) (fun v _=>Fa.jt (fun b=>b) false v) (fun _ _=>false) (fun _ _=>false) o
theorem zW {o:jd} (h:wZ o=true):∃h',o= .ret (.bool true) h':=by
 cases o with
 | ret v h'=>
   cases v with
   | bool b=>exact ⟨h',by rw[show b=true from h]⟩
   | _=>cases h
 | panic v h'=>cases h
 | fail _ _=>cases h
end Go.Ab
end
section
namespace Go.Ab
variable {E:Env}
noncomputable def qY (E:Env) (call:bw) (fuel:Nat) (fn:Func) (p:Option AV) (s:St):jd:=match cJ (h_ E call fuel) s.ds p s.h with
 | none=> .fail "unwind" none
 | some (some v,h')=> .panic v h'
 | some (none,h')=>match jM E h' s.ts fn.results.toList with
   | some vs=> .ret (fY vs) h'
   | none=> .fail "results" none
noncomputable def w6 (E:Env) (call:bw) (fuel:Nat) (f:FuncId) (args:List AV) (h:au):jd:=match E.P.funcs[f]? with
 | none=> .fail "no function" none
 | some fn=>match fn.body with
   | none=> .fail ("no body " ++fn.name) none
   | some b=>match mD E call fuel fn b args h .no with
     | .ok .normal s=>qY E call fuel fn none s
     | .ok .ret s=>qY E call fuel fn none s
     | .ok (.panic v) s=>qY E call fuel fn (some v) s
     | .ok (.exit _) _=> .fail "exit" none
     | .fail why o=> .fail (why++ " in " ++fn.name) o
theorem pq (hE:kh E) (fuel:Nat) {call:bw} (ih:ic E call):(∀f args h v h',w6 E call fuel f args h= .ret v h'→kL E f args h v h')∧(∀f args h v h',w6 E call fuel f args h= .panic v h'→M' E f args h v h'):=by
 have key:∀(f:FuncId) (args:List AV) (h:au) (out:jd),w6 E call fuel f args h=out→(∀why q,out≠ .fail why q)→
  ∃fn c e s p,E.P.funcs[f]? =some fn∧fn.body=some c∧mD E call fuel fn c args h .no= .ok e s∧
   ((p=none∧(e= .normal∨e= .ret))∨∃v,p=some v∧e= .panic v)∧
   ((∃v h',out= .panic v h'∧cJ (h_ E call fuel) s.ds p s.h=some (some v,h'))∨
    ∃vs h',out= .ret (fY vs) h'∧cJ (h_ E call fuel) s.ds p s.h=some (none,h')∧jM E h' s.ts fn.results.toList=some vs):=by
  intro f args h out e dR
  unfold w6 at e
  split at e
  · exact absurd e.symm (dR _ _)
  rename_i fn hf
  split at e
  · exact absurd e.symm (dR _ _)
  rename_i c hb
  have fin:∀(p:Option AV) (s:St),qY E call fuel fn p s=out→
   ((∃v h',out= .panic v h'∧cJ (h_ E call fuel) s.ds p s.h=some (some v,h'))∨
    ∃vs h',out= .ret (fY vs) h'∧cJ (h_ E call fuel) s.ds p s.h=some (none,h')∧jM E h' s.ts fn.results.toList=some vs):=by
   intro p s hm
   unfold qY at hm
   split at hm
   · exact absurd hm.symm (dR _ _)
   · rename_i v h' hu;exact .inl ⟨v,h',hm.symm,hu⟩
   · rename_i h' hu
     split at hm
     · rename_i vs hv;exact .inr ⟨vs,h',hm.symm,hu,hv⟩
     · exact absurd hm.symm (dR _ _)
  split at e
  · rename_i s f_;exact ⟨fn,c,_,s,none,hf,hb,f_,.inl ⟨rfl,.inl rfl⟩,fin none s e⟩
  · rename_i s f_;exact ⟨fn,c,_,s,none,hf,hb,f_,.inl ⟨rfl,.inr rfl⟩,fin none s e⟩
  · rename_i v s f_;exact ⟨fn,c,_,s,some v,hf,hb,f_,.inr ⟨v,rfl,rfl⟩,fin (some v) s e⟩
  · exact absurd e.symm (dR _ _)
  · exact absurd e.symm (dR _ _)
 have run:∀(f:FuncId) (fn:Func) (c:Code) (args:List AV) (h:au) (e:hZ) (s:St) (p p':Option AV) (h':au),E.P.funcs[f]? =some fn→fn.body=some c→mD E call fuel fn c args h .no= .ok e s→
  ((p=none∧(e= .normal∨e= .ret))∨∃v,p=some v∧e= .panic v)→cJ (h_ E call fuel) s.ds p s.h=some (p',h')→
  ∀(φ:Ph) (w:World) (vs:List Value),OK E φ h w→LR φ args vs→∀cs,∃φ' w' m' tmps todo,OK E φ' h' w'∧Fr φ h w φ' h' w'∧LR φ' s.ts tmps.toList∧
   ((p'=none∧m'= .returning)∨∃v v',p'=some v∧VR φ' v v'∧m'= .panicking [{v:=v',recovered:=false}])∧
   Steps E.P (lone (Frame.enter E.P f vs.toArray .normal) cs w) (lone {(bare f .normal).atR {tmps,defers:=[]} todo with mode:=m'} cs w'):=by
  intro f fn c args h e s p p' h' hf hb f_ hp hu φ w vs ok hl cs
  obtain ⟨φ1,w1,a1,e1,x1,x2,x3,x4,x5,x6⟩:=(sD hE ih hf hb f_ ok hl (kind:= .normal) (K:=fun _=>cs) ⟨rfl,fun fr hk=>by simp [tryRecover,show fr.kind= .normal from hk]⟩).is
  have IK:cur (fun _=>cs) s.rc=cs:=by cases s.rc<;>rfl
  have RJ:cur (fun _=>cs) RC.no=cs:=rfl
  rw[IK] at x6
  rw[RJ] at x6
  have hm:∃todo m,((p=none∧m= .returning)∨∃v v',p=some v∧VR φ1 v v'∧m= .panicking [{v:=v',recovered:=false}])∧
   Steps E.P (lone (Frame.enter E.P f vs.toArray .normal) cs w) (lone {(bare f .normal).atR a1 todo with mode:=m} cs w1):=by
   rcases hp with ⟨rfl,rfl | rfl⟩ | ⟨v,rfl,rfl⟩
   · cases x1;exact ⟨[],.returning,.inl ⟨rfl,rfl⟩,Steps.trans x6 (.one (stepR_end rfl))⟩
   · cases x1;obtain ⟨todo,hs⟩:=x6;exact ⟨_,.returning,.inl ⟨rfl,rfl⟩,Steps.trans hs (.one (stepR_ret rfl))⟩
   · cases x1 with
     | panic _ v' hv=>obtain ⟨todo,hs⟩:=x6;exact ⟨todo,_,.inr ⟨v,v',rfl,hv,rfl⟩,hs⟩
  obtain ⟨todo,m,hmp,r_⟩:=hm
  obtain ⟨φ2,w2,m2,BP,f2,RI,hs2⟩:=jP hE ih s.ds hu (fr:={(bare f .normal).atR a1 todo with mode:=m}) (cs:=cs) x3 x2.ds (by
   rcases hmp with ⟨e,em⟩ | ⟨v,v',e,hv,em⟩
   · exact .inl ⟨e,em⟩
   · exact .inr ⟨v,v',e,hv,em⟩)
  exact ⟨φ2,w2,m2,a1.tmps,todo,BP,x4.trans f2,x2.ts.mono f2.ext,RI,Steps.trans r_ hs2⟩
 refine ⟨fun f args h v h' e=>?_,fun f args h v h' e=>?_⟩
 · obtain ⟨fn,c,e1,s,p,hf,hb,f_,hp,pS⟩:=key f args h _ e (by simp)
   rcases pS with ⟨v1,h1,he,_⟩ | ⟨vs1,h1,he,hu,DJ⟩
   · simp at he
   · simp at he;obtain ⟨rfl,rfl⟩:=he
     intro φ w vs ok hl
     refine ⟨enters hE hf hb _ w,fun cs=>?_⟩
     obtain ⟨φ',w',m',tmps,todo,rJ,fr,ht,hm,hs⟩:=run f fn c args h e1 s p none h' hf hb f_ hp hu φ w vs ok hl cs
     obtain ⟨v',hv,fU⟩:=sC rJ ht DJ
     rcases hm with ⟨_,rfl⟩ | ⟨v,v'',e,_⟩
     · exact ⟨φ',w',v',_,hv,rJ,fr,hs,rfl,rfl,rfl,rfl,fn,hf,fU⟩
     · simp at e
 · obtain ⟨fn,c,e1,s,p,hf,hb,f_,hp,pS⟩:=key f args h _ e (by simp)
   rcases pS with ⟨v1,h1,he,hu⟩ | ⟨vs1,h1,he,_⟩
   · simp at he;obtain ⟨rfl,rfl⟩:=he
     intro φ w vs ok hl
     refine ⟨enters hE hf hb _ w,fun cs=>?_⟩
     obtain ⟨φ',w',m',tmps,todo,rJ,fr,ht,hm,hs⟩:=run f fn c args h e1 s p (some v) h' hf hb f_ hp hu φ w vs ok hl cs
     rcases hm with ⟨e,_⟩ | ⟨v2,v',e,hv,rfl⟩
     · simp at e
     · simp at e;subst e
       exact ⟨φ',w',v',_,hv,rJ,fr,hs,rfl,rfl,rfl,fn,hf⟩
   · simp at he
namespace Fa
abbrev GH:=FuncId→List AV→au→Option (AV×au)
def GI (E:Env) (M:GH):Prop:=∀f args h v h',M f args h=some (v,h')→kL E f args h v h'
noncomputable def Jh (nx:Nat) (l:List (Nat×a_)):au:=List.rec (motive:=fun _=>au) ⟨HT.nil,nx,fun _=>none⟩ (fun x _ h=>h.put x.1 (some x.2)) l
theorem Ey {nx:Nat}:∀{l:List (Nat×a_)} {i:Nat} {o:a_},(Jh nx l).get i=some o→(i,o)∈l
 | [],i,o,e=>by
   have e:(au.mk HT.nil nx fun _=>none).get i=some o:=e
   by_cases hi:i<262144
   · rw[au.vm hi] at e
     have e:(hp i).get HT.nil=some o:=e
     rw[Bu hi,yw,Bt] at e
     simp only[HT.nil,Ba] at e
     cases e
   · rw[au.qG hi] at e;cases e
 | x::xs,i,o,e=>by
   have e:((Jh nx xs).put x.1 (some x.2)).get i=some o:=e
   by_cases h:x.1=i
   · subst h
     rw[au.bS] at e
     cases e;simp
   · rw[au.bA h] at e
     exact List.mem_cons_of_mem _ (Ey e)
structure Ent where
 f:FuncId
 args:List AV
 nx:Nat
 K:List (Nat×a_)
 v:AV
 nx':Nat
 K':List (Nat×a_)
end Fa
end Go.Ab
end
section
namespace Go.Ab
variable {E:Env}
theorem LR.w7 {φ φ':Ph} {xs:List AV} {ys zs:List Value} (h:LR φ xs ys) (h':LR φ' xs zs) (ih:∀(i:Nat) (x:AV) (y z:Value),xs[i]? =some x→ys[i]? =some y→zs[i]? =some z→VR φ x z):LR φ xs zs:=by
 refine ⟨h'.1,fun i x z hx hz=>?_⟩
 have hi:i<xs.length:=(List.getElem?_eq_some_iff.1 hx).1
 have:i<ys.length:=by rw[←h.1];exact hi
 exact ih i x ys[i] z hx (by simp [this]) hz
theorem VR.back {φ φ':Ph} (hle:φ.le φ') {x:AV} {y:Value} (h:VR φ x y):∀{z:Value},VR φ' x z→VR φ x z:=by
 induction h with
 | bool b=>intro z h;cases h;exact .bool b
 | int k n=>intro z h;cases h;exact .int k n
 | str s=>
   intro z h
   generalize he:AV.str s.data.toList=q at h
   cases h with
   | str s'=>exact .str s'
   | _=>cases he
 | fX=>intro z h;cases h;exact .fX
 | ptr o h=>intro z h';cases h' with | ptr _ h'=>rw[hle _ _ h] at h';cases h';exact .ptr o h
 | aQ=>intro z h;cases h;exact .aQ
 | slice o len cap op h=>intro z h';cases h' with | slice _ _ _ _ h'=>rw[hle _ _ h] at h';cases h';exact .slice o len cap op h
 | dN a cap=>intro z h;cases h;exact .dN _ _
 | dM=>intro z h;cases h;exact .dM
 | map h=>intro z h';cases h' with | map h'=>rw[hle _ _ h] at h';cases h';exact .map h
 | func f a b a' b' la lb ha hb iha ihb=>
   intro z h
   obtain ⟨c,d,rfl,hc,hd⟩:=VR.wj h
   have h1:LR φ a c.toList:=LR.w7 (ys:=a'.toList) ⟨by simpa using la,fun i x y p q=>ha i x y p (by simpa using q)⟩ hc fun i x y z p q r=>iha i x y p (by simpa using q) (hc.2 i x z p r)
   have h2:LR φ b d.toList:=LR.w7 (ys:=b'.toList) ⟨by simpa using lb,fun i x y p q=>hb i x y p (by simpa using q)⟩ hd fun i x y z p q r=>ihb i x y p (by simpa using q) (hd.2 i x z p r)
   have:=VR.Q1 f h1 h2
   simpa using this
 | nilFunc=>intro z h;cases h;exact .nilFunc
 | yield h=>intro z h';cases h' with | yield h'=>rw[hle _ _ h] at h';cases h';exact .yield h
 | iface t v v' h ih=>intro z h';cases h' with | iface _ _ _ h'=>exact .iface t v _ (ih h')
 | nilIface=>intro z h;cases h;exact .nilIface
 | agg cs iw hl h ih=>
   intro z h'
   obtain ⟨d,rfl,hd⟩:=VR.jN h'
   have h1:LR φ cs d.toList:=LR.w7 (ys:=iw.toList) ⟨by simpa using hl,fun i x y p q=>h i x y p (by simpa using q)⟩ hd fun i x y z p q r=>ih i x y p (by simpa using q) (hd.2 i x z p r)
   have:=VR.OJ h1
   simpa using this
 | any v h=>intro z h';cases h' with | any _ h'=>exact .any _ h'
 | tuple cs iw hl h ih=>
   intro z h'
   obtain ⟨d,rfl,hd⟩:=VR.Ea h'
   have h1:LR φ cs d.toList:=LR.w7 (ys:=iw.toList) ⟨by simpa using hl,fun i x y p q=>h i x y p (by simpa using q)⟩ hd fun i x y z p q r=>ih i x y p (by simpa using q) (hd.2 i x z p r)
   have:=VR.tuple' h1
   simpa using this
theorem LR.back {φ φ':Ph} (hle:φ.le φ') {xs:List AV} {ys zs:List Value} (h:LR φ xs ys) (h':LR φ' xs zs):LR φ xs zs:=
 LR.w7 h h' fun i x y z p q r=>(h.2 i x y p q).back hle (h'.2 i x z p r)
theorem OR.back {φ φ':Ph} (hle:φ.le φ') {o:a_} {l:Loc} {x z:Option Obj} (h:OR E φ o l x) (h':OR E φ' o l z):OR E φ o l z:=by
 cases o with
 | cells cs e ro=>
   obtain ⟨C,e1,lo,hi,_,hc⟩:=h
   obtain ⟨D,e2,KY,FT,hz,hd⟩:=h'
   refine ⟨D,e2,KY,FT,hz,⟨hd.size,fun k x hk=>?_,hd.free,hd.zero⟩,hd.shape⟩
   obtain ⟨y,_,hy⟩:=hc.val k x hk
   obtain ⟨y',h1,Ri⟩:=hd.val k x hk
   exact ⟨y',h1,hy.back hle Ri⟩
 | map es clock=>
   obtain ⟨_,es1,_,hl,hv⟩:=h
   obtain ⟨h0,es2,hz,V6,hv'⟩:=h'
   refine ⟨h0,es2,hz,V6,fun i x y hx hy=>?_⟩
   have hi:i<es.length:=(List.getElem?_eq_some_iff.1 hx).1
   have:i<es1.toList.length:=by rw[←hl];exact hi
   have a:=hv i x _ hx (List.getElem?_eq_getElem this)
   have b:=hv' i x y hx hy
   exact ⟨a.key.back hle b.key,a.val.back hle b.val,b.born⟩
 | uK s pos=>exact h'
 | Bq m since seen qC=>
   cases m with
   | none=>exact h'
   | some m=>
     obtain ⟨_,lm,hm,_⟩:=h
     obtain ⟨h0,lm',V9,hz⟩:=h'
     rw[hle _ _ hm] at V9;cases V9
     exact ⟨h0,lm,hm,hz⟩
 | loop st pd ts ps as_ bd dn=>
   obtain ⟨_,r,_,hr⟩:=h
   obtain ⟨h0,r',hz,Ig⟩:=h'
   obtain ⟨ld,hd,_⟩:=hr.defers
   obtain ⟨ld',KA,Kz⟩:=Ig.defers
   rw[hle _ _ hd] at KA;cases KA
   exact ⟨h0,r',hz,Ig.state,Ig.pending,hr.tmps.back hle Ig.tmps,Ig.params,Ig.assign,Ig.body,⟨ld,hd,Kz⟩,Ig.fn⟩
 | pz=>exact h'
def Has (h h':au):Prop:=∀i o,h.get i=some o→h'.get i=some o
theorem Has.refl (h:au):Has h h:=fun _ _ e=>e
theorem Has.trans {a b c:au} (x:Has a b) (y:Has b c):Has a c:=fun i o e=>y i o (x i o e)
theorem OK.forget {φ φ':Ph} {h h':au} {w w':World} (ok:OK E φ h w) (hle:φ.le φ') (rJ:OK E φ' h' w') (hs:Has h h'):OK E φ h w' where
 AO:=ok.AO
 nx:=ok.nx
 vl:=ok.vl
 live i o l a b:=(ok.live i o l a b).back hle (rJ.live i o l (hs i o a) (hle _ _ b))
 inj:=ok.inj
theorem Fr.forget {φ φ':Ph} {h h':au} {w w':World} (f:Fr φ h w φ' h' w'):Fr φ h w φ h w' where
 ext:=Ph.le_refl φ
 old _ _:=rfl
 nx:=Nat.le_refl _
 os:=f.os
 tape:=f.tape
 output:=f.output
 size:=f.size
 wo:=f.wo
 own i o l a b c:= .inr ⟨i,o,l,a,b,c,rfl⟩
def AV.plain:Nat→AV→Bool
 | 0,_=>false
 | n+1,x=>match x with
   | .bool _ | .int .. | .str _ | .fX | .aQ | .dM | .nilFunc | .nilIface=>true
   | .iface _ v=>AV.plain n v
   | .agg cs=>cs.all (AV.plain n)
   | .tuple cs=>cs.all (AV.plain n)
   | _=>false
theorem VR.plain {φ φ':Ph}:∀(n:Nat) {x:AV} (_:AV.plain n x=true) {y:Value},VR φ' x y→VR φ x y
 | 0,_,h,_,_=>by cases h
 | n+1,x,h,y,hv=>by
   have ih:= @VR.plain φ φ' n
   cases hv with
   | bool b=>exact .bool b
   | int k m=>exact .int k m
   | str s=>exact .str s
   | fX=>exact .fX
   | aQ=>exact .aQ
   | dM=>exact .dM
   | nilFunc=>exact .nilFunc
   | nilIface=>exact .nilIface
   | iface t v v' h'=>exact .iface t v v' (ih (by simpa [AV.plain] using h) h')
   | agg cs iw hl hc=>
     refine .agg cs iw hl fun i x y a b=>ih ?_ (hc i x y a b)
     simp only[AV.plain,List.all_eq_true] at h
     exact h x (List.mem_of_getElem? a)
   | tuple cs iw hl hc=>
     refine .tuple cs iw hl fun i x y a b=>ih ?_ (hc i x y a b)
     simp only[AV.plain,List.all_eq_true] at h
     exact h x (List.mem_of_getElem? a)
   | _=>cases h
theorem kL.closed {f:FuncId} {args:List AV} {h':au} {v:AV} (r:kL E f args (Fa.Jh E.G []) v h') (ha:args.all (AV.plain 20)=true) (hv:AV.plain 20 v=true) (h:au):kL E f args h v h:=fun φ w vs ok hl=>by
 let φ0:Ph:=fun i=>if i<E.G then φ i else none
 have hle:φ0.le φ:=fun i l e=>by
  simp only[φ0] at e
  split at e
  · exact e
  · cases e
 have Sy:∀{i o},(Fa.Jh E.G []).get i=some o→False:=fun e=>by cases Fa.Ey e
 have ok0:OK E φ0 (Fa.Jh E.G []) w:=by
  refine ⟨fun i l e=>?_,Nat.le_refl _,fun g hg=>?_,fun i o l e=>(Sy e).elim,fun i j o p l m e=>(Sy e).elim⟩
  · simp only[φ0] at e
    split at e
    · assumption
    · cases e
  · simp only[φ0,hg,if_true];exact ok.vl g hg
 have hl0:LR φ0 args vs:=⟨hl.1,fun i x y a b=>(hl.2 i x y a b).plain 20 (List.all_eq_true.1 ha x (List.mem_of_getElem? a))⟩
 obtain ⟨h1,h2⟩:=r φ0 w vs ok0 hl0
 refine ⟨h1,fun cs=>?_⟩
 obtain ⟨φ',w',v',fr,x1,x2,x3,x4⟩:=h2 cs
 have Zq:∀b,b<w.heap.size→w'.heap[b]? =w.heap[b]? :=fun b hb=>x3.wo b hb fun i o l e=>(Sy e).elim
 refine ⟨φ,w',v',fr,x1.plain 20 hv,⟨ok.AO,ok.nx,ok.vl,fun i o l a b=>?_,ok.inj⟩,⟨Ph.le_refl φ,fun _ _=>rfl,Nat.le_refl _,x3.os,x3.tape,x3.output,x3.size,fun b hb _=>Zq b hb,fun i o l a b c=> .inr ⟨i,o,l,a,b,c,rfl⟩⟩,x4⟩
 have hr:=ok.live i o l a b
 by_cases hb:l.dY<w.heap.size
 · rw[Zq _ hb];exact hr
 · rw[Array.getElem?_eq_none (by omega)] at hr
   exact hr.absurd.elim
end Go.Ab
end
