import Derived.Laws.Externs
import Derived.Lib.Bytealg
import Derived.Maps.Own
import Derived.Maps.Range
import Derived.Sort.KeysCollected
import GoSem.ClaimChange
import Derived.OpenShut
import Derived.FnData
import Derived.ChangeArms
import Derived.Test.YtaglmdbkfcpbbaaGreatA5
import Derived.Test.YtaglmdbkfcpbbaaGreatA3
import Derived.Test.YtaglmdbkfcpbbaaGreatA1
import Derived.Test.YtaglmdbkfcpbbaaGreatA4
set_option linter.unusedVariables false
set_option linter.unusedSimpArgs false
section
namespace Go.Ab.Fa
variable {E:Env} {F:RF} {n:Nat}
theorem iN {ts:List AV} {x:Operand} {a:AV} (h:ez E ts x=some a):fY E ts [x]=some [a]:=by simp [fY,ey,h]
theorem Am {ts:List AV} {x y:Operand} {a b:AV} (h:ez E ts x=some a) (h':ez E ts y=some b):fY E ts [x,y]=some [a,b]:=by simp [fY,ey,h,h']
theorem Nb (v:AV):Su v=nH v:=by
 cases v with
 | str s=>show some (iG s)=some s.length;rw[fT]
 | _=>rfl
theorem HZ {h:ar} {size m:Nat} {v:AV} {l:List AV} (e:JS h size m v=some l):fS h size m v=some l:=by
 cases v with
 | aI=>
   obtain ⟨h1,e1⟩:=fU (show bc (Nat.beq m 0) (some []) none=some l from e)
   simp only[fS];rw[if_pos (mq h1)];exact e1
 | slice i o len c b=>
   obtain ⟨h1,e1⟩:=fU (show bc (Nat.ble m len) (ob none (fun obj=>vh (fun cs _ _=>bc (Nat.ble (o+m*size) (iG cs)) (some (qQ (qP cs o) (m*size))) none) none obj) (h.get i)) none=some l from e)
   obtain ⟨obj,h2,e2⟩:=gM e1
   obtain ⟨cs,el,ro,rfl,e3⟩:=pH e2
   obtain ⟨h3,e4⟩:=fU e3
   have h1:=fJ h1
   have h3:=fJ h3
   rw[fT] at h3
   rw[oL,oK] at e4
   simp only[fS,h2]
   rw[if_pos h1]
   by_cases h0:m=0
   · subst h0
     rw[if_pos rfl]
     rw[Nat.zero_mul,List.take_zero] at e4
     exact e4
   · rw[if_neg h0,if_pos h3];exact e4
 | _=>exact e
theorem Kh {h:ar} {obj:aH} {f:ar→AV×ar} {p:AV×ar} (e:ob none (fun h'=>some (f h')) (h.new obj)=some p):∃h',h.new obj=some h'∧p=f h':=by
 obtain ⟨h',h1,e1⟩:=gM e
 exact ⟨h',h1,(Option.some.inj e1).symm⟩
theorem Nc {argTypes:Array TypeId} {sT xT elem:TypeId} {xd:TypeDesc} {size bytes:Nat} {z:AV} (h1:argTypes[0]? =some sT) (h2:argTypes[1]? =some xT) (h3:E.P.underlying sT=some (.slice elem)) (h4:E.P.underlying xT=some xd)
 (h5:lr xd=false) (h6:cE E elem=some size) (h7:jI E elem=some bytes) (h8:gH E elem=some z) (h9:z.cells.length=size)
 {h:ar} {s x:AV} {p:AV×ar} (e:Sv elem size bytes h s x=some p):da E h argTypes s x=some p:=by
 obtain ⟨m,a1,e1⟩:=gM e
 rw[Nb] at a1
 obtain ⟨new,a2,e2⟩:=gM e1
 have a2:=HZ a2
 obtain ⟨a3,e3⟩:=fU e2
 obtain ⟨a4,e4⟩:=fU e3
 rw[pD,C7] at a3
 have a4:=mq a4
 rw[fT] at a4
 unfold da
 simp only[h1,h2,h3,h4,h5,h6,h7,h8,a1,a2]
 rw[if_neg (by simp)]
 rw[if_pos ⟨h9,a3,a4⟩]
 rcases na e4 with ⟨rfl,e5⟩ | ⟨i,o,len,cap,op,rfl,e5⟩
 · cases hm:Nat.beq m 0 with
   | true=>
     rw[hm,iZ] at e5
     simp only;rw[if_pos (mq hm)];exact e5
   | false=>
     rw[hm,eg] at e5
     obtain ⟨a5,e6⟩:=fU e5
     have a5:(4*m+4096)*(bytes+1)≤1099511627776:=fJ a5
     obtain ⟨h',a6,rfl⟩:=Kh e6
     simp only
     rw[if_neg (by intro ee;rw[ee] at hm;cases hm),if_pos a5]
     simp only[a6]
 · obtain ⟨obj,a5,e6⟩:=gM e5
   obtain ⟨cs,el,ro,rfl,e7⟩:=pH e6
   obtain ⟨a6,e8⟩:=pG e7
   subst a6
   simp only[a5]
   cases hc:Nat.ble (Nat.add len m) cap with
   | true=>
     rw[hc,iZ] at e8
     have hc:len+m≤cap:=fJ hc
     obtain ⟨a7,e9⟩:=fU e8
     have a7:o+(len+m)*size≤iG cs:=fJ a7
     rw[fT] at a7
     rw[if_pos hc,if_pos a7,←Option.some.inj e9,Bq];rfl
   | false=>
     rw[hc,eg] at e8
     have hc:cap<len+m:=jQ hc
     obtain ⟨a7,e9⟩:=fU e8
     have a7:(4*(len+m)+4096)*(bytes+1)≤1099511627776:=fJ a7
     obtain ⟨a8,UB⟩:=fU e9
     have a8:o+len*size≤iG cs:=fJ a8
     rw[fT] at a8
     rw[if_neg (by omega)]
     cases op with
     | true=>
       rw[iZ] at UB
       obtain ⟨a9,YD⟩:=fU UB
       obtain ⟨UC,YE⟩:=fU YD
       have a9:=mq a9
       have UC:o+cap*size=iG cs:=mq UC
       rw[fT] at UC
       obtain ⟨h',SB,rfl⟩:=Kh YE
       rw[mG,oL,oK] at SB
       rw[if_pos ⟨a7,a8,fun _=>⟨a9,UC⟩⟩]
       rw[if_pos rfl]
       have PX:(h.put i none).new (.cells ((cs.drop o).take (len*size)++new) elem false)=some h':=SB
       simp only[PX];rfl
     | false=>
       rw[eg] at UB
       obtain ⟨h',SB,rfl⟩:=Kh UB
       rw[mG,oL,oK] at SB
       rw[if_pos ⟨a7,a8,fun hh=>by cases hh⟩]
       rw[if_neg (by simp)]
       have PX:h.new (.cells ((cs.drop o).take (len*size)++new) elem false)=some h':=SB
       simp only[PX];rfl
theorem kJ {b:Builtin} (h1:b≠ .len) (h2:b≠ .cap) (h3:b≠ .max) (h4:b≠ .min) (a:Array Operand) (t:Array TypeId):qV E (.call ⟨.builtin b,a,t⟩):=by
 cases b<;>first | exact absurd rfl h1 | exact absurd rfl h2 | exact absurd rfl h3 | exact absurd rfl h4 | exact ⟨fun _=>rfl,fun _ _=>rfl,fun _=>rfl⟩
theorem H0 (a:Array Operand) (t:Array TypeId):f' E F n (.call ⟨.builtin .append,a,t⟩) (match a.toList with
 | [s,x]=>wO E F n s (fun gs=>wO E F n x (fun gx=>JT E t gs gx) .bad) .bad
 | _=> .bad):=by
 have nn:qV E (.call ⟨.builtin .append,a,t⟩):=kJ (by simp) (by simp) (by simp) (by simp) a t
 generalize hl:a.toList=l
 match l with
 | []=>trivial
 | [_]=>trivial
 | _::_::_::_=>trivial
 | [s,x]=>
   simp only
   rcases ca E F n s (fun gs=>wO E F n x (fun gx=>JT E t gs gx) .bad) (.bad:Kd F.T) with h | ⟨gs,h,hs⟩<;>rw[h]
   · trivial
   rcases ca E F n x (fun gx=>JT E t gs gx) (.bad:Kd F.T) with h | ⟨gx,h,hx⟩<;>rw[h]
   · trivial
   unfold JT
   simp only[gY,Array.getElem?_toList,iw,nh,J4,vn]
   have fin:∀(f:F.T→ar→Option (AV×ar)),(∀r h p,f r h=some p→da E h t (gs r) (gx r)=some p)→f' E F n (.call ⟨.builtin .append,a,t⟩) (.wr f):=by
    intro f hf
    refine ⟨nn,fun call r h rc o p ho e=>?_⟩
    simp only[dv,ho,hl,Am (hs r) (hx r),hf r h p e]
   cases h1:t[0]? with
   | none=>trivial
   | some sT=>cases h2:t[1]? with
     | none=>trivial
     | some xT=>
       simp only
       cases h3:E.P.underlying sT with
       | none=>trivial
       | some sd=>cases h4:E.P.underlying xT with
         | none=>cases sd<;>trivial
         | some xd=>cases sd with
           | slice elem=>
             simp only
             cases h5:lr xd with
             | true=>
               rw[if_pos rfl]
               apply fin
               intro r h p e
               unfold da
               simp only[h1,h2,h3,h4,h5]
               rw[if_pos trivial];exact e
             | false=>
               rw[if_neg (by simp)]
               cases h6:cE E elem with
               | none=>trivial
               | some size=>cases h7:jI E elem with
                 | none=>trivial
                 | some bytes=>cases h8:gH E elem with
                   | none=>trivial
                   | some z=>
                     simp only
                     by_cases h9:z.cells.length=size
                     · rw[if_pos h9]
                       exact fin _ fun r h p e=>Nc h1 h2 h3 h4 h5 h6 h7 h8 h9 e
                     · rw[if_neg h9];trivial
           | _=>trivial
theorem GD (a:Array Operand) (t:Array TypeId):f' E F n (.call ⟨.builtin .copy,a,t⟩) (match a.toList with
 | [s,x]=>wO E F n s (fun gs=>wO E F n x (fun gx=> .wr fun r h=>se E h t (gs r) (gx r)) .bad) .bad
 | _=> .bad):=by
 have nn:qV E (.call ⟨.builtin .copy,a,t⟩):=kJ (by simp) (by simp) (by simp) (by simp) a t
 generalize hl:a.toList=l
 match l with
 | []=>trivial
 | [_]=>trivial
 | _::_::_::_=>trivial
 | [s,x]=>
   simp only
   rcases ca E F n s (fun gs=>wO E F n x (fun gx=>(.wr fun r h=>se E h t (gs r) (gx r):Kd F.T)) .bad) (.bad:Kd F.T) with h | ⟨gs,h,hs⟩<;>rw[h]
   · trivial
   rcases ca E F n x (fun gx=>(.wr fun r h=>se E h t (gs r) (gx r):Kd F.T)) (.bad:Kd F.T) with h | ⟨gx,h,hx⟩<;>rw[h]
   · trivial
   refine ⟨nn,fun call r h rc o p ho e=>?_⟩
   simp only[dv,ho,hl,Am (hs r) (hx r),e]
theorem E5 (a:Array Operand) (t:Array TypeId):f' E F n (.call ⟨.builtin .recover,a,t⟩) (.rZ fun _ _ h rc=>match rc with
 | .iE x=> .p6 x
 | .Ca _=> .fail "" none
 | _=> .val .nilIface h):=by
 refine ⟨kJ (by simp) (by simp) (by simp) (by simp) a t,fun fc call _ r h rc o ho=>?_⟩
 simp only[dv,ho]
 cases rc<;>first | trivial | rfl
theorem PY (a:Array Operand) (t:Array TypeId):f' E F n (.call ⟨.builtin .len,a,t⟩) (match iH t.toList 0,a.toList with
 | some t,[x]=>wO E F n x (fun g=>match jB E.P t with
   | some .string=> .gR fun r=>pB (fun s=>some (.int .i64 (Int.ofNat (iG s)))) none (g r)
   | some (.array m _)=> .gR fun _=>some (.int .i64 (Int.ofNat m))
   | some (.slice _)=> .gR fun r=>jh (some (.int .i64 (Int.ofNat 0))) (fun _ _ m _ _=>some (.int .i64 (Int.ofNat m))) (vZ (some (.int .i64 (Int.ofNat 0))) none (g r)) (g r)
   | some (.map _ _)=> .red fun r h=>Gi h (g r)
   | _=> .bad) .bad
 | _,_=> .bad):=by
 rw[gY,Array.getElem?_toList]
 cases ht:t[0]? with
 | none=>trivial
 | some tt=>
   generalize hl:a.toList=l
   match l with
   | []=>trivial
   | _::_::_=>trivial
   | [x]=>
     simp only[iw]
     rcases ca E F n x (fun g=>match E.P.underlying tt with
      | some .string=>(.gR fun r=>pB (fun s=>some (.int .i64 (Int.ofNat (iG s)))) none (g r):Kd F.T)
      | some (.array m _)=> .gR fun _=>some (.int .i64 (Int.ofNat m))
      | some (.slice _)=> .gR fun r=>jh (some (.int .i64 (Int.ofNat 0))) (fun _ _ m _ _=>some (.int .i64 (Int.ofNat m))) (vZ (some (.int .i64 (Int.ofNat 0))) none (g r)) (g r)
      | some (.map _ _)=> .red fun r h=>Gi h (g r)
      | _=> .bad) .bad with h | ⟨g,h,hg⟩<;>rw[h]
     · trivial
     cases hu:E.P.underlying tt with
     | none=>trivial
     | some d=>cases d with
       | string=>
         intro r v e
         obtain ⟨s,e1,e2⟩:=m_ e
         simp only[bH,ht,hl,iN (hg r),hu,e1]
         rw[←e2,fT];rfl
       | array m el=>
         intro r v e
         simp only[bH,ht,hl,iN (hg r),hu]
         exact e
       | slice el=>
         intro r v e
         rcases C6 e with ⟨e1,e2⟩ | ⟨i,o,l,c,b,e1,e2⟩ | ⟨e1,e2⟩
         · simp only[bH,ht,hl,iN (hg r),hu,e1];exact e2
         · simp only[bH,ht,hl,iN (hg r),hu,e1];exact e2
         · simp only[bH,ht,hl,iN (hg r),hu,e1];exact e2
       | map key el=>
         intro r h v e
         have e:Gi h (g r)=some v:=e
         generalize hm:g r=m at e
         cases m with
         | ea=>exact .inl (by simp only[bH,ht,hl,iN (hg r),hu,hm];exact e)
         | map i=>
           refine .inr ⟨by simp only[bH,ht,hl,iN (hg r),hu,hm],?_⟩
           obtain ⟨o,h3,h4⟩:=gM (show ob none (fun o=>MR (fun es=>some (AV.int .i64 (Int.ofNat (iG es)))) none o) (h.get i)=some v from e)
           cases o with
           | map es c=>
             have h4:some (AV.int .i64 (Int.ofNat (iG es)))=some v:=h4
             simp only[ef,ht,hl,iN (hg r),hu,hm,h3]
             rw[←h4,fT];rfl
           | _=>cases h4
         | _=>cases e
       | _=>trivial
theorem PZ (a:Array Operand) (t:Array TypeId):f' E F n (.call ⟨.builtin .cap,a,t⟩) (match iH t.toList 0,a.toList with
 | some t,[x]=>wO E F n x (fun g=>match jB E.P t with
   | some (.slice _)=> .gR fun r=>jh (some (.int .i64 (Int.ofNat 0))) (fun _ _ _ c b=>bc b none (some (.int .i64 (Int.ofNat c)))) none (g r)
   | _=> .bad) .bad
 | _,_=> .bad):=by
 rw[gY,Array.getElem?_toList]
 cases ht:t[0]? with
 | none=>trivial
 | some tt=>
   generalize hl:a.toList=l
   match l with
   | []=>trivial
   | _::_::_=>trivial
   | [x]=>
     simp only[iw]
     rcases ca E F n x (fun g=>match E.P.underlying tt with
      | some (.slice _)=>(.gR fun r=>jh (some (.int .i64 (Int.ofNat 0))) (fun _ _ _ c b=>bc b none (some (.int .i64 (Int.ofNat c)))) none (g r):Kd F.T)
      | _=> .bad) .bad with h | ⟨g,h,hg⟩<;>rw[h]
     · trivial
     cases hu:E.P.underlying tt with
     | none=>trivial
     | some d=>cases d with
       | slice el=>
         intro r v e
         rcases na e with ⟨e1,e2⟩ | ⟨i,o,l,c,b,e1,e2⟩
         · simp only[bH,ht,hl,iN (hg r),hu,e1];exact e2
         · obtain ⟨rfl,e3⟩:=pG e2
           simp only[bH,ht,hl,iN (hg r),hu,e1];exact e3
       | _=>trivial
theorem H2 (f:FuncId) (a:Array Operand) (t:Array TypeId):f' E F n (.call ⟨.value (.func f),a,t⟩) (wL E F n a.toList (fun gs=>match E.lJ f with
 | some e=> .gR fun r=>e (gs r)
 | none=>match E.im f with
   | some g=> .wr fun r h=>g (gs r) h
   | none=> .call (.fn f) gs) .bad):=by
 rcases rR E F n a.toList (fun gs=>match E.lJ f with
  | some e=>(.gR fun r=>e (gs r):Kd F.T)
  | none=>match E.im f with
    | some g=> .wr fun r h=>g (gs r) h
    | none=> .call (.fn f) gs) .bad with h | ⟨gs,h,hg⟩<;>rw[h]
 · trivial
 cases hp:E.lJ f with
 | some e=>
   intro r v h
   simp only[bH,hp,hg];exact h
 | none=>
   have nn:qV E (.call ⟨.value (.func f),a,t⟩):=⟨fun _=>by simp only[bH,hp],fun _ _=>rfl,fun _=>rfl⟩
   have hc:∀r,callee E (eU F n r) ⟨.value (.func f),a,t⟩=some (.fn f,gs r):=by
    intro r
    simp only[callee,hg,ez]
    simp
   cases hs:E.im f with
   | some g=>
     refine ⟨nn,fun call r h rc o p ho e=>?_⟩
     have e':g (gs r) h=some p:=e
     simp only[dv,ho,hc,jx,hs,e']
   | none=>
     refine ⟨nn,fun call r h rc o ho=>?_⟩
     simp only[dv,ho,hc,jx,hs]
     cases call (.fn f) (gs r) h<;>rfl
theorem yf {a b:iT} (h1:∀v h',a= .ret v h'→b= .ret v h') (h2:∀v h',a= .panic v h'→b= .panic v h'):OA (lW a) (lW b):=by
 cases a with
 | ret v h=>rw[h1 v h rfl];rfl
 | panic v h=>rw[h2 v h rfl];rfl
 | fail _ _=>trivial
theorem sO (x:Operand) (hx:∀f,x≠ .func f) (a:Array Operand) (t:Array TypeId):f' E F n (.call ⟨.value x,a,t⟩) (wO E F n x (fun gf=>wL E F n a.toList (fun gs=> .rZ fun call r h _=>Ge
 (fun g first captured=>ob (lW (call (.fn g) (ky first (ky (gs r) captured)) h)) (fun sp=>ob (.fail "" none) (fun p=> .val p.1 p.2) (sp (ky first (ky (gs r) captured)) h)) (E.im g))
 (fun l=>lW (call (.vN l) (gs r) h)) (.fail "" none) (gf r)) .bad) .bad):=by
 have nn:qV E (.call ⟨.value x,a,t⟩):=by
  cases x with
  | func f=>exact absurd rfl (hx f)
  | _=>exact ⟨fun _=>rfl,fun _ _=>rfl,fun _=>rfl⟩
 let K:(F.T→AV)→(F.T→List AV)→Kd F.T:=fun gf gs=> .rZ fun call r h _=>Ge
  (fun g first captured=>ob (lW (call (.fn g) (ky first (ky (gs r) captured)) h)) (fun sp=>ob (.fail "" none) (fun p=> .val p.1 p.2) (sp (ky first (ky (gs r) captured)) h)) (E.im g))
  (fun l=>lW (call (.vN l) (gs r) h)) (.fail "" none) (gf r)
 show f' E F n _ (wO E F n x (fun gf=>wL E F n a.toList (fun gs=>K gf gs) .bad) .bad)
 rcases ca E F n x (fun gf=>wL E F n a.toList (fun gs=>K gf gs) .bad) .bad with h | ⟨gf,h,hf⟩<;>rw[h]
 · trivial
 rcases rR E F n a.toList (fun gs=>K gf gs) .bad with h | ⟨gs,h,hg⟩<;>rw[h]
 · trivial
 refine ⟨nn,fun fc call hle r h rc o ho=>?_⟩
 have ec:∀R,callee E (eU F n r) ⟨.value x,a,t⟩=R→dv E call (eU F n r) h rc o=(match R with
  | some (f,args)=>match jx E f with
    | some g=>(match g args h with | some (x,h')=> .val x h' | none=> .fail "eff" (some o))
    | none=>lW (call f args h)
  | none=> .fail "callee" (some o)):=by
  intro R hR
  simp only[dv,ho,hR]
  cases R with
  | none=>rfl
  | some p=>
    obtain ⟨f,args⟩:=p
    simp only
    cases jx E f with
    | none=>simp only;cases call f args h<;>rfl
    | some g=>rfl
 show OA (Ge _ _ _ (gf r)) _
 cases hv:gf r with
 | func g first captured=>
   have hc:callee E (eU F n r) ⟨.value x,a,t⟩=some (.fn g,first++gs r++captured):=by
    simp only[callee,hf,hg,hv]
   rw[ec _ hc]
   have ha:ky first (ky (gs r) captured)=first++gs r++captured:=by rw[mG,mG,List.append_assoc]
   show OA (ob (lW (fc (.fn g) (ky first (ky (gs r) captured)) h)) (fun sp=>ob (.fail "" none) (fun p=> .val p.1 p.2) (sp (ky first (ky (gs r) captured)) h)) (E.im g)) _
   rw[ha]
   simp only[jx]
   cases hs:E.im g with
   | none=>exact yf (hle _ _ _).1 (hle _ _ _).2
   | some sp=>
     show OA (ob (.fail "" none) (fun p=> .val p.1 p.2) (sp (first++gs r++captured) h)) _
     simp only
     cases sp (first++gs r++captured) h with
     | none=>trivial
     | some p=>rfl
 | qt l=>
   have hc:callee E (eU F n r) ⟨.value x,a,t⟩=some (.vN l,gs r):=by
    simp only[callee,hf,hg,hv]
   rw[ec _ hc]
   simp only[jx]
   exact yf (hle _ _ _).1 (hle _ _ _).2
 | _=>trivial
theorem H4 (x:Operand) (name:String) (a:Array Operand) (t:Array TypeId):f' E F n (.call ⟨.invoke x name,a,t⟩) (wO E F n x (fun gx=>wL E F n a.toList (fun gs=> .rZ fun call r h _=>pC
 (fun t v=>ob (.fail "" none) (fun f=>lW (call (.fn f) (v::gs r) h)) (C3 E t name)) (.fail "" none) (gx r)) .bad) .bad):=by
 have nn:qV E (.call ⟨.invoke x name,a,t⟩):=⟨fun _=>rfl,fun _ _=>rfl,fun _=>rfl⟩
 let K:(F.T→AV)→(F.T→List AV)→Kd F.T:=fun gx gs=> .rZ fun call r h _=>pC
  (fun t v=>ob (.fail "" none) (fun f=>lW (call (.fn f) (v::gs r) h)) (C3 E t name)) (.fail "" none) (gx r)
 show f' E F n _ (wO E F n x (fun gx=>wL E F n a.toList (fun gs=>K gx gs) .bad) .bad)
 rcases ca E F n x (fun gx=>wL E F n a.toList (fun gs=>K gx gs) .bad) .bad with h | ⟨gx,h,hx⟩<;>rw[h]
 · trivial
 rcases rR E F n a.toList (fun gs=>K gx gs) .bad with h | ⟨gs,h,hg⟩<;>rw[h]
 · trivial
 refine ⟨nn,fun fc call hle r h rc o ho=>?_⟩
 show OA (pC _ _ (gx r)) _
 cases hv:gx r with
 | iface u v=>
   show OA (ob (.fail "" none) (fun f=>lW (fc (.fn f) (v::gs r) h)) (C3 E u name)) _
   cases hm:C3 E u name with
   | none=>trivial
   | some f=>
     have P0:tq E u name=some f:=hm
     have ec:dv E call (eU F n r) h rc o=lW (call (.fn f) (v::gs r) h):=by
      simp only[dv,ho,hx,hg,hv,P0]
      cases call (.fn f) (v::gs r) h<;>rfl
     rw[ec]
     exact yf (hle _ _ _).1 (hle _ _ _).2
 | _=>trivial
theorem Ki (c:Call):f' E F n (.call c) (Ox E F n c (.call c)):=by
 obtain ⟨eD,a,t⟩:=c
 cases eD with
 | value x=>cases x with
   | func f=>exact H2 f a t
   | tmp x=>exact sO (.tmp x) (by simp) a t
   | const x=>exact sO (.const x) (by simp) a t
   | global x=>exact sO (.global x) (by simp) a t
 | invoke r m=>exact H4 r m a t
 | builtin b=>cases b with
   | append=>exact H0 a t
   | copy=>exact GD a t
   | recover=>exact E5 a t
   | len=>exact PY a t
   | cap=>exact PZ a t
   | max=>exact fun r v e=>e
   | min=>exact fun r v e=>e
   | _=>trivial
theorem Dd (op:Op):f' E F n op (sm E F n op):=by
 cases op with
 | move x=>
   show f' E F n _ (wO E F n x .Cd .bad)
   rcases ca E F n x .Cd (.bad:Kd F.T) with h | ⟨g,h,hg⟩<;>rw[h]
   · trivial
   · exact hg
 | assign x=>
   show f' E F n _ (wO E F n x .Cd .bad)
   rcases ca E F n x .Cd (.bad:Kd F.T) with h | ⟨g,h,hg⟩<;>rw[h]
   · trivial
   · exact hg
 | pick c a b=>exact M_ c a b
 | binOp op t x y yt=>
   show f' E F n _ (wO E F n x (fun gx=>wO E F n y (fun gy=>eW op (kD E op t (isConst x) (isConst y)) gx gy) .bad) .bad)
   rcases ca E F n x (fun gx=>wO E F n y (fun gy=>eW op (kD E op t (isConst x) (isConst y)) gx gy) .bad) (.bad:Kd F.T) with h | ⟨gx,h,hx⟩<;>rw[h]
   · trivial
   rcases ca E F n y (fun gy=>eW op (kD E op t (isConst x) (isConst y)) gx gy) (.bad:Kd F.T) with h | ⟨gy,h,hy⟩<;>rw[h]
   · trivial
   exact M8 op t x y yt gx gy hx hy
 | unOp op t x=>
   show f' E F n _ (wO E F n x (Ss op) .bad)
   rcases ca E F n x (Ss op) (.bad:Kd F.T) with h | ⟨g,h,hg⟩<;>rw[h]
   · trivial
   exact PS op t x g hg
 | fieldAddr s x f=>exact Bs s x f
 | load t a=>exact M9 t a
 | store t a x=>exact Ka t a x
 | nilCheck x=>exact C9 x
 | extract x i=>exact E3 x i
 | field s x f=>exact J9 s x f
 | indexAddr t x ix=>exact Bt t x ix
 | index t x ix=>exact J_ t x ix
 | slice t x lo hi mx=>cases mx with
   | none=>exact J' t x lo hi
   | some m=>exact fun r v e=>e
 | convert s d x=>exact E4 s d x
 | makeInterface t x=>exact vo t x
 | makeFunc f a b=>cases f with
   | func f=>exact Da f a b
   | _=>trivial
 | alloc t=>exact Kb t
 | box t x=>exact PW t x
 | buildSlice t len parts=>exact zE t len parts
 | makeSlice t l c=>exact Bu t l c
 | makeMap t r=>cases r with
   | none=>exact ⟨fun _=>rfl,fun _ _=>rfl,fun r p e=>e⟩
   | some x=>exact ⟨fun _=>rfl,fun _ _=>rfl,fun r p e=>e⟩
 | range t x=>exact ⟨fun _=>rfl,fun _ _=>rfl,fun r p e=>e⟩
 | lookup t x ix ok=>exact HX t x ix ok
 | build t parts=>exact Ke t parts
 | typeAssert x a b ok=>exact fun r v e=>e
 | mapUpdate t m k x=>exact Bv t m k x
 | insert t m k x=>exact HY t m k x
 | next it s=>exact Na it s
 | panic x=>exact Kf x
 | defer c=>exact Kg c
 | call c=>exact Ki c
 | _=>trivial
end Go.Ab.Fa
end
section
namespace Go.Ab.Fa
variable {E:Env} {F:RF} {n:Nat}
def qn (_E:Env) (F:RF) (n:Nat) (o:FO F.T) (out:Out):Prop:=match o with
 | .CZ r h y=>out= .ok .normal ⟨eU F n r,h,y.ds,y.rc⟩
 | .jmp e r h y=>e≠ .normal∧out= .ok e ⟨eU F n r,h,y.ds,y.rc⟩
 | .bad=>True
theorem Bw {call:bx} {s:St} {o:Oper} {v:AV} (h:bH E s.ts o.op=some v):AP E call s o= .ok .normal {s with ts:=dV s.ts o.dst v}:=by
 simp only[AP,h]
theorem Nd {call:bx} {s:St} {o:Oper} {v:AV} (h0:bH E s.ts o.op=none) (h:ef E s.ts s.h o.op=some v):AP E call s o= .ok .normal {s with ts:=dV s.ts o.dst v}:=by
 simp only[AP,h0,h]
theorem Bx {call:bx} {s:St} {o:Oper} (nn:qV E o.op):AP E call s o=(match dv E call s.ts s.h s.rc o with
 | .val v h'=> .ok .normal {s with ts:=dV s.ts o.dst v,h:=h'}
 | .defer d=> .ok .normal {s with ts:=dV s.ts o.dst AV.undef,ds:=d::s.ds}
 | .p6 v=> .ok .normal {s with ts:=dV s.ts o.dst v,rc:= .done}
 | .panic v h'=> .ok (.panic v) {s with h:=h'}
 | .fail why q=> .fail why q):=by
 simp only[AP,nn.1,nn.2.1,nn.2.2]
 generalize dv E call s.ts s.h s.rc o=x
 cases x<;>rfl
noncomputable def SC (E:Env) (call:bx) (ops:Array Oper) (rest:List Oper) (out:Out):Out:=match out with
 | .ok .normal s'=>jK E call ops rest s'
 | r=>r
theorem Nf {ops:Array Oper} {o:Oper} {rest:List Oper} {kd:Kd F.T} {s:AV→F.T→F.T} {j:I F.T} {fc call:bx} (hle:jR fc call) (hk:f' E F n o.op kd)
 (hs:∀v r,dV (eU F n r) o.dst v=eU F n (s v r)) (hj:∀r h y,qn E F n (j.run fc r h y) (jK E call ops rest ⟨eU F n r,h,y.ds,y.rc⟩)) (r:F.T) (h:ar) (y:Y):
 qn E F n ((EY kd s j).run fc r h y) (SC E call ops rest (AP E call ⟨eU F n r,h,y.ds,y.rc⟩ o)):=by
 cases kd with
 | Cd g=>
   rw[Bw (s:=⟨eU F n r,h,y.ds,y.rc⟩) (hk r)]
   show qn E F n (j.run fc (s (g r) r) h y) (jK E call ops rest ⟨dV (eU F n r) o.dst (g r),h,y.ds,y.rc⟩)
   rw[hs];exact hj _ _ _
 | gR f=>
   show qn E F n (ob .bad (fun v=>j.run fc (s v r) h y) (f r)) _
   cases hf:f r with
   | none=>trivial
   | some v=>
     rw[Bw (s:=⟨eU F n r,h,y.ds,y.rc⟩) (hk r v hf)]
     show qn E F n (j.run fc (s v r) h y) (jK E call ops rest ⟨dV (eU F n r) o.dst v,h,y.ds,y.rc⟩)
     rw[hs];exact hj _ _ _
 | red f=>
   show qn E F n (ob .bad (fun v=>j.run fc (s v r) h y) (f r h)) _
   cases hf:f r h with
   | none=>trivial
   | some v=>
     rcases hk r h v hf with h0 | ⟨h0,h1⟩
     · rw[Bw (s:=⟨eU F n r,h,y.ds,y.rc⟩) h0]
       show qn E F n (j.run fc (s v r) h y) (jK E call ops rest ⟨dV (eU F n r) o.dst v,h,y.ds,y.rc⟩)
       rw[hs];exact hj _ _ _
     rw[Nd (s:=⟨eU F n r,h,y.ds,y.rc⟩) h0 h1]
     show qn E F n (j.run fc (s v r) h y) (jK E call ops rest ⟨dV (eU F n r) o.dst v,h,y.ds,y.rc⟩)
     rw[hs];exact hj _ _ _
 | qz f=>
   obtain ⟨h0,h1,h2⟩:=hk
   show qn E F n (ob .bad (fun p=>ob .bad (fun h'=>j.run fc (s (p.2 h.nx) r) h' y) (h.new p.1)) (f r)) _
   cases hf:f r with
   | none=>trivial
   | some p=>
     obtain ⟨obj,mk⟩:=p
     show qn E F n (ob .bad (fun h'=>j.run fc (s (mk h.nx) r) h' y) (h.new obj)) _
     cases hh:h.new obj with
     | none=>trivial
     | some h'=>
       have:AP E call ⟨eU F n r,h,y.ds,y.rc⟩ o= .ok .normal ⟨dV (eU F n r) o.dst (mk h.nx),h',y.ds,y.rc⟩:=by
        simp only[AP,h0,h1,h2 r _ hf,hh]
       rw[this,hs];exact hj _ _ _
 | wr f=>
   obtain ⟨nn,h1⟩:=hk
   show qn E F n (ob .bad (fun p=>j.run fc (s p.1 r) p.2 y) (f r h)) _
   cases hf:f r h with
   | none=>trivial
   | some p=>
     rw[Bx nn,h1 call r h y.rc o p rfl hf]
     show qn E F n (j.run fc (s p.1 r) p.2 y) (jK E call ops rest ⟨dV (eU F n r) o.dst p.1,p.2,y.ds,y.rc⟩)
     rw[hs];exact hj _ _ _
 | call g args=>
   obtain ⟨nn,h1⟩:=hk
   rw[Bx nn,h1 call r h y.rc o rfl]
   show qn E F n (iT.rec (motive:=fun _=>FO F.T) (fun v h'=>j.run fc (s v r) h' y) (fun v h'=> .jmp (.panic v) r h' y) (fun _ _=> .bad) (fc g (args r) h)) _
   cases hc:fc g (args r) h with
   | fail _ _=>trivial
   | ret v h'=>
     rw[(hle _ _ _).1 v h' hc]
     show qn E F n (j.run fc (s v r) h' y) (jK E call ops rest ⟨dV (eU F n r) o.dst v,h',y.ds,y.rc⟩)
     rw[hs];exact hj _ _ _
   | panic v h'=>
     rw[(hle _ _ _).2 v h' hc]
     exact ⟨by simp,rfl⟩
 | rZ f=>
   obtain ⟨nn,h1⟩:=hk
   rw[Bx nn]
   have h2:=h1 fc call hle r h y.rc o rfl
   show qn E F n (uP.rec (motive:=fun _=>FO F.T) (fun v h'=>j.run fc (s v r) h' y) (fun d=>j.run fc (s AV.undef r) h ⟨d::y.ds,y.rc⟩) (fun v=>j.run fc (s v r) h ⟨y.ds,.done⟩)
    (fun v h'=> .jmp (.panic v) r h' y) (fun _ _=> .bad) (f fc r h y.rc)) _
   cases he:f fc r h y.rc with
   | fail _ _=>trivial
   | val v h'=>
     rw[he] at h2
     have h2:dv E call (eU F n r) h y.rc o= .val v h':=h2
     rw[h2]
     show qn E F n (j.run fc (s v r) h' y) (jK E call ops rest ⟨dV (eU F n r) o.dst v,h',y.ds,y.rc⟩)
     rw[hs];exact hj _ _ _
   | defer d=>
     rw[he] at h2
     have h2:dv E call (eU F n r) h y.rc o= .defer d:=h2
     rw[h2]
     show qn E F n (j.run fc (s AV.undef r) h ⟨d::y.ds,y.rc⟩) (jK E call ops rest ⟨dV (eU F n r) o.dst AV.undef,h,d::y.ds,y.rc⟩)
     rw[hs];exact hj _ _ ⟨d::y.ds,y.rc⟩
   | p6 v=>
     rw[he] at h2
     have h2:dv E call (eU F n r) h y.rc o= .p6 v:=h2
     rw[h2]
     show qn E F n (j.run fc (s v r) h ⟨y.ds,.done⟩) (jK E call ops rest ⟨dV (eU F n r) o.dst v,h,y.ds,.done⟩)
     rw[hs];exact hj _ _ ⟨y.ds,.done⟩
   | panic v h'=>
     rw[he] at h2
     have h2:dv E call (eU F n r) h y.rc o= .panic v h':=h2
     rw[h2]
     exact ⟨by simp,rfl⟩
 | bad=>trivial
def vp (ts:List AV) (d:Nat) (want:Bool):Bool:=match ts[d]? with
 | some (.bool b)=>b==want
 | _=>false
theorem v9 {ts:List AV} {d:Nat} (h:ts.length≤d) (want:Bool):vp ts d want=false:=by
 unfold vp;rw[List.getElem?_eq_none h]
theorem v_ {ts:List AV} {d:Nat} {v:AV} (h:ts[d]? =some v) (want:Bool):vp ts d want=jg (fun b=>b==want) false v:=by
 unfold vp;rw[h];cases v<;>rfl
theorem tT (ops:Array Oper) (ts:List AV) (o:Oper) {j:Nat} {want:Bool} (hg:o.guard=some (j,want)):cP ops ts o=(match (ops[j]?).bind (·.dst) with
 | some d=>match ts[d]? with
   | some (.bool b)=>b==want
   | _=>false
 | none=>false):=by simp only[cP,hg];rfl
theorem Kj (ops:Array Oper) (j:Nat):ob none (fun p=>p.dst) (iH ops.toList j)=(ops[j]?).bind (·.dst):=by
 rw[gY,Array.getElem?_toList];cases ops[j]? <;>rfl
theorem Kk (YF:n≤F.N) (ops:Array Oper) (o:Oper) (a b:I F.T) (call:bx) (r:F.T) (h:ar) (y:Y):
 (Gl F n ops o a b).run call r h y=bif cP ops (eU F n r) o then a.run call r h y else b.run call r h y:=by
 unfold Gl
 cases hg:o.guard with
 | none=>simp only[cP,hg];rfl
 | some p=>
   obtain ⟨j,want⟩:=p
   rw[tT ops _ o hg]
   simp only[Kj]
   cases (ops[j]?).bind (·.dst) with
   | none=>rfl
   | some d=>
     show (bc (Nat.ble n d) b (EZ (F.get d).f want a b)).run call r h y=bif vp (eU F n r) d want then a.run call r h y else b.run call r h y
     cases hd:Nat.ble n d with
     | true=>
       rw[v9 (by rw[iv];exact fJ hd)];rfl
     | false=>
       rw[v_ (rM F n r (jQ hd)),eg]
       cases want with
       | true=>
         show jg (fun t=>bc t (a.run call r h y) (b.run call r h y)) (b.run call r h y) ((F.get d).f r)=_
         cases (F.get d).f r with
         | bool t=>cases t<;>rfl
         | _=>rfl
       | false=>
         show jg (fun t=>bc t (b.run call r h y) (a.run call r h y)) (b.run call r h y) ((F.get d).f r)=_
         cases (F.get d).f r with
         | bool t=>cases t<;>rfl
         | _=>rfl
theorem De (YF:n≤F.N) (ops:Array Oper) (o:Oper) (a b:D F.T) (call:bx) (r:F.T) (h:ar) (y:Y):
 (vY F n ops o a b).run call r h y=bif cP ops (eU F n r) o then a.run call r h y else b.run call r h y:=by
 unfold vY
 cases hg:o.guard with
 | none=>simp only[cP,hg];rfl
 | some p=>
   obtain ⟨j,want⟩:=p
   rw[tT ops _ o hg]
   simp only[Kj]
   cases (ops[j]?).bind (·.dst) with
   | none=>rfl
   | some d=>
     show (bc (Nat.ble n d) b (JW (F.get d).f want a b)).run call r h y=bif vp (eU F n r) d want then a.run call r h y else b.run call r h y
     cases hd:Nat.ble n d with
     | true=>
       rw[v9 (by rw[iv];exact fJ hd)];rfl
     | false=>
       rw[v_ (rM F n r (jQ hd)),eg]
       cases want with
       | true=>
         show jg (fun t=>bc t (a.run call r h y) (b.run call r h y)) (b.run call r h y) ((F.get d).f r)=_
         cases (F.get d).f r with
         | bool t=>cases t<;>rfl
         | _=>rfl
       | false=>
         show jg (fun t=>bc t (b.run call r h y) (a.run call r h y)) (b.run call r h y) ((F.get d).f r)=_
         cases (F.get d).f r with
         | bool t=>cases t<;>rfl
         | _=>rfl
theorem yg (hn:n≤F.N) {fc call:bx} (hle:jR fc call) (ops:Array Oper):∀(l:List Oper) (r:F.T) (h:ar) (y:Y),
 qn E F n ((rQ E F n ops l).run fc r h y) (jK E call ops l ⟨eU F n r,h,y.ds,y.rc⟩)
 | [],r,h,y=>rfl
 | o::rest,r,h,y=>by
   have ih:=yg hn hle ops rest
   show qn E F n ((JU E F n ops o (rQ E F n ops rest)).run fc r h y) _
   unfold JU
   obtain ⟨s,h1,hs⟩:=GB F n hn o.dst (fun s=>Gl F n ops o (EY (sm E F n o.op) s (rQ E F n ops rest)) (Oy s (rQ E F n ops rest)))
   rw[h1,Kk hn]
   rw[jK]
   cases hw:cP ops (eU F n r) o with
   | true=>
     rw[if_pos rfl]
     exact Nf hle (Dd o.op) hs ih r h y
   | false=>
     rw[if_neg (by simp)]
     show qn E F n ((rQ E F n ops rest).run fc (s AV.undef r) h y) _
     simp only[hs]
     exact ih _ _ _
def madeOf:TK→Option Nat
 | .qz n _=>some n
 | _=>none
theorem tU (x:Step) (t:List Step):pg (x::t)=match madeOf x.kind with | none=>pg t | some i=>i::pg t:=by
 show List.filterMap (fun x:Step=>madeOf x.kind) (x::t)=_
 rw[List.filterMap_cons];cases madeOf x.kind<;>rfl
inductive nU (E:Env) (ops:Array Oper) (pl:lu):List HS→List Step→Prop
 | nil:nU E ops pl [] []
 | skip {x:Step} {c:List HS} {t:List Step} (hs:∀h,jf E ops x h=true) (hm:madeOf x.kind=none) (ht:nU E ops pl c t):nU E ops pl c (x::t)
 | Ng {x:Step} {c0:HS} {c:List HS} {t:List Step} (hk:c0.k=x.k) (hl:c0.m=jL pl.bZ pl.an x.i+1 - x.k) (hm:madeOf x.kind=c0.made)
  (hs:∀h,c0.f h=true→jf E ops x h=true) (ht:nU E ops pl c t):nU E ops pl (c0::c) (x::t)
theorem nU.made {ops:Array Oper} {pl:lu} {c:List HS} {t:List Step} (h:nU E ops pl c t):Gq c=pg t:=by
 induction h with
 | nil=>rfl
 | skip hs hm ht ih=>rw[tU,hm];exact ih
 | Ng hk hl hm hs ht ih=>
   rename_i x c0 c t
   show ob (Gq c) (fun i=>i::Gq c) c0.made=_
   rw[tU,hm,ih]
   cases c0.made<;>rfl
theorem nU.all {ops:Array Oper} {pl:lu} {hs:List ar} {c:List HS} {t:List Step} (h:nU E ops pl c t) (e:c.all (fun x=>vi x.f (qQ (qP hs x.k) x.m))=true):
 t.all (fun x=>((hs.drop x.k).take (jL pl.bZ pl.an x.i+1 - x.k)).all (jf E ops x))=true:=by
 induction h with
 | nil=>rfl
 | skip pr hm ht ih=>
   rw[List.all_cons,ih e,Bool.and_true,List.all_eq_true]
   intro h _;exact pr h
 | Ng hk hl hm pr ht ih=>
   rw[List.all_cons,Bool.and_eq_true] at e
   rw[List.all_cons,ih e.2,Bool.and_true,List.all_eq_true]
   have e1:=e.1
   rw[pD,oL,oK,List.all_eq_true,hk,hl] at e1
   intro h hh;exact pr h (e1 h hh)
theorem yh {ops:Array Oper} {pl:lu} {hs:List ar} {c:List HS} {t:List Step} (h:nU E ops pl c t) (e:pF c hs=true):ph E ops pl t hs=true:=by
 unfold pF at e
 rw[m9,Bool.and_eq_true,vl,pD,h.made] at e
 unfold ph
 rw[Bool.and_eq_true]
 exact ⟨e.1,h.all e.2⟩
def zo (E:Env) (F:RF) (n:Nat) (ops:Array Oper) (pl:lu) (d:DO F.T) (t:jy):Prop:=match d with
 | .ok tr hs r h y=>∃Eo,t= .ok Eo hs ⟨eU F n r,h,y.ds,y.rc⟩∧nU E ops pl tr Eo
 | .bad=>True
theorem zo.skip {ops:Array Oper} {pl:lu} {d:DO F.T} {t:jy} (h:zo E F n ops pl d t) {x:Step} (hs:∀h,jf E ops x h=true) (hm:madeOf x.kind=none):zo E F n ops pl d (t.step x):=by
 cases d with
 | bad=>trivial
 | ok tr pr r h' y=>
   obtain ⟨Eo,rfl,h2⟩:=h
   exact ⟨x::Eo,rfl,.skip hs hm h2⟩
theorem zo.bound {ops:Array Oper} {pl:lu} {d:DO F.T} {t:jy} (h:zo E F n ops pl d t) (h0:ar):zo E F n ops pl (pE h0 d) (t.bound h0):=by
 cases d with
 | bad=>trivial
 | ok tr pr r h' y=>
   obtain ⟨Eo,rfl,h2⟩:=h
   exact ⟨Eo,rfl,h2⟩
theorem zo.Ng {ops:Array Oper} {pl:lu} {d:DO F.T} {t:jy} (h:zo E F n ops pl d t) {x:Step} {c:HS} (hk:c.k=x.k) (hl:c.m=jL pl.bZ pl.an x.i+1 - x.k)
 (hm:madeOf x.kind=c.made) (hs:∀h,c.f h=true→jf E ops x h=true):zo E F n ops pl (Ak c d) (t.step x):=by
 cases d with
 | bad=>trivial
 | ok tr pr r h' y=>
   obtain ⟨Eo,rfl,h2⟩:=h
   exact ⟨x::Eo,rfl,.Ng hk hl hm hs h2⟩
theorem Df:∀(m:Nat) (x y:AV),x8 m x y=true→AV.same m x y=true
 | 0,_,_,e=>by cases e
 | m+1,x,y,e=>by
   have ih:=Df m
   have all:∀(a b:List AV),leq (x8 m) a b=true→dU (AV.same m) a b=true:=by
    intro a
    induction a with
    | nil=>intro b;cases b<;>intro e<;>first | rfl | cases e
    | cons x tl YG=>
      intro b
      cases b with
      | nil=>intro e;cases e
      | cons y tm=>
        intro e
        have e:bc (x8 m x y) (leq (x8 m) tl tm) false=true:=e
        rw[m9,Bool.and_eq_true] at e
        rw[dU,Bool.and_eq_true]
        exact ⟨ih _ _ e.1,YG _ e.2⟩
   cases x with
   | int k a=>cases y with
     | int j b=>
       have e:bc (JF k j) (Ot a b) false=true:=e
       rw[m9,Bool.and_eq_true,E1] at e
       rw[AV.same,Gu e.1,e.2];simp
     | _=>cases e
   | str a=>cases y with
     | str b=>
       have e:leq xV a b=true:=e
       rw[E2] at e
       rw[AV.same];exact e
     | _=>cases e
   | ptr i o=>cases y with
     | ptr j p=>
       have e:bc (Nat.beq i j) (Nat.beq o p) false=true:=e
       rw[m9,Bool.and_eq_true] at e
       rw[AV.same,mq e.1,mq e.2];simp
     | _=>cases e
   | bool a=>cases y with
     | bool b=>
       have e:bc a b (sM b)=true:=e
       rw[AV.same]
       cases a<;>cases b<;>first | rfl | cases e
     | _=>cases e
   | agg a=>cases y with
     | agg b=>rw[AV.same];exact all a b e
     | _=>cases e
   | _=>exact e
theorem yi (hn:n≤F.N) {fc call:bx} (hle:jR fc call) (ops:Array Oper) (pl:lu):∀(l:List Nat) (k:Nat) (r:F.T) (h:ar) (y:Y),
 zo E F n ops pl ((iY E F n ops pl l k).run fc r h y) (db E call ops l k ⟨eU F n r,h,y.ds,y.rc⟩)
 | [],k,r,h,y=>⟨[],rfl,.nil⟩
 | i::rest,k,r,h,y=>by
   have ih:=yi hn hle ops pl rest
   rw[db]
   show zo E F n ops pl (D.run (ob ⟨fun _ _ _ _=> .bad⟩ (fun o=>wS F n o.dst fun s=>
    bc (oI E o.op) (canon (k+1) fun k'=>vY F n ops o (Gm (sm E F n o.op) s (iY E F n ops pl rest k')) (E0 s (iY E F n ops pl rest k')))
     (canon (w8 pl.bZ pl.an i+1 - k) fun m=>vY F n ops o (Gn k m (sm E F n o.op) s (iY E F n ops pl rest k)) (JV s (iY E F n ops pl rest k)))) (iH ops.toList i)) fc r h y) _
   rw[gY,Array.getElem?_toList]
   cases ho:ops[i]? with
   | none=>trivial
   | some o=>
     have gL:(ops.getD i default).op=o.op:=by rw[Array.getD_eq_getD_getElem?,ho];rfl
     simp only[MU,kC,qT,EW]
     obtain ⟨s,h1,hs⟩:=GB F n hn o.dst (fun s=>
      bc (fG E o.op) (vY F n ops o (Gm (sm E F n o.op) s (iY E F n ops pl rest (k+1))) (E0 s (iY E F n ops pl rest (k+1))))
      (vY F n ops o (Gn k (jL pl.bZ pl.an i+1 - k) (sm E F n o.op) s (iY E F n ops pl rest k)) (JV s (iY E F n ops pl rest k))))
     rw[h1]
     have hk:=Dd (E:=E) (F:=F) (n:=n) o.op
     generalize sm E F n o.op=kd at hk
     cases he:fG E o.op with
     | true=>
       rw[iZ,De hn,if_pos rfl]
       cases hw:cP ops (eU F n r) o with
       | false=>
         rw[if_neg (by simp)]
         show zo E F n ops pl (pE h ((iY E F n ops pl rest (k+1)).run fc (s AV.undef r) h y)) _
         simp only[hs]
         exact ((ih _ _ _ _).bound h).skip (fun _=>rfl) rfl
       | true=>
         rw[if_pos rfl]
         show zo E F n ops pl ((Gm kd s (iY E F n ops pl rest (k+1))).run fc r h y) _
         cases kd with
         | wr f=>
           show zo E F n ops pl (ob .bad (fun p=>pE h ((iY E F n ops pl rest (k+1)).run fc (s p.1 r) p.2 y)) (f r h)) _
           cases hf:f r h with
           | none=>trivial
           | some p=>
             simp only[hk.2 call r h y.rc o p rfl hf,hs]
             exact ((ih _ _ _ _).bound h).skip (fun _=>rfl) rfl
         | call g args=>
           show zo E F n ops pl (iT.rec (motive:=fun _=>DO F.T) (fun v h'=>pE h ((iY E F n ops pl rest (k+1)).run fc (s v r) h' y)) (fun _ _=> .bad) (fun _ _=> .bad) (fc g (args r) h)) _
           cases hc:fc g (args r) h with
           | fail _ _=>trivial
           | panic _ _=>trivial
           | ret v h'=>
             simp only[hk.2 call r h y.rc o rfl,(hle _ _ _).1 v h' hc,lW,hs]
             exact ((ih _ _ _ _).bound h).skip (fun _=>rfl) rfl
         | rZ f=>
           show zo E F n ops pl (uP.rec (motive:=fun _=>DO F.T) (fun v h'=>pE h ((iY E F n ops pl rest (k+1)).run fc (s v r) h' y)) (fun _=> .bad) (fun _=> .bad) (fun _ _=> .bad) (fun _ _=> .bad) (f fc r h y.rc)) _
           have h2:=hk.2 fc call hle r h y.rc o rfl
           cases hf:f fc r h y.rc with
           | val v h'=>
             rw[hf] at h2
             have h2:dv E call (eU F n r) h y.rc o= .val v h':=h2
             simp only[h2,hs]
             exact ((ih _ _ _ _).bound h).skip (fun _=>rfl) rfl
           | _=>trivial
         | _=>trivial
     | false=>
       rw[eg,De hn,if_neg (by simp)]
       cases hw:cP ops (eU F n r) o with
       | false=>
         rw[if_neg (by simp)]
         show zo E F n ops pl ((iY E F n ops pl rest k).run fc (s AV.undef r) h y) _
         simp only[hs]
         exact (ih _ _ _ _).skip (fun _=>rfl) rfl
       | true=>
         rw[if_pos rfl]
         show zo E F n ops pl ((Gn k (jL pl.bZ pl.an i+1 - k) kd s (iY E F n ops pl rest k)).run fc r h y) _
         cases kd with
         | Cd g=>
           simp only[hk r,hs]
           exact (ih _ _ _ _).skip (fun _=>rfl) rfl
         | gR f=>
           show zo E F n ops pl (ob .bad (fun v=>(iY E F n ops pl rest k).run fc (s v r) h y) (f r)) _
           cases hf:f r with
           | none=>trivial
           | some v=>
             simp only[hk r v hf,hs]
             exact (ih _ _ _ _).skip (fun _=>rfl) rfl
         | red f=>
           show zo E F n ops pl (ob .bad (fun v=>Ak ⟨k,_,none,fun h'=>ob false (fun v'=>x8 20 v' v) (f r h')⟩ ((iY E F n ops pl rest k).run fc (s v r) h y)) (f r h)) _
           cases hf:f r h with
           | none=>trivial
           | some v=>
             rcases hk r h v hf with q0 | ⟨q0,q1⟩
             · simp only[q0,hs]
               exact (ih _ _ _ _).Ng rfl rfl rfl fun h' _=>rfl
             simp only[q0,q1,hs]
             refine (ih _ _ _ _).Ng rfl rfl rfl fun h' e=>?_
             have e:ob false (fun v'=>x8 20 v' v) (f r h')=true:=e
             cases P1:f r h' with
             | none=>rw[P1] at e;cases e
             | some v'=>
               rw[P1] at e
               rcases hk r h' v' P1 with q2 | ⟨_,q3⟩
               · rw[q0] at q2;cases q2
               simp only[jf,gL,q3]
               exact Df 20 v' v e
         | qz f=>
           obtain ⟨h3,h4,h5⟩:=hk
           show zo E F n ops pl (ob .bad (fun p=>ob .bad (fun h'=>Ak ⟨k,_,some h.nx,fun Gp=>ob false (fun o=>aH.same o p.1) (Gp.get h.nx)⟩ ((iY E F n ops pl rest k).run fc (s (p.2 h.nx) r) h' y)) (h.new p.1)) (f r)) _
           cases hf:f r with
           | none=>trivial
           | some p=>
             obtain ⟨obj,mk⟩:=p
             show zo E F n ops pl (ob .bad (fun h'=>Ak ⟨k,_,some h.nx,fun Gp=>ob false (fun o=>aH.same o obj) (Gp.get h.nx)⟩ ((iY E F n ops pl rest k).run fc (s (mk h.nx) r) h' y)) (h.new obj)) _
             cases hh:h.new obj with
             | none=>trivial
             | some h'=>
               simp only[h3,h4,h5 r _ hf,hh,hs]
               refine (ih _ _ _ _).Ng rfl rfl rfl fun Gp e=>?_
               have e:ob false (fun o=>aH.same o obj) (Gp.get h.nx)=true:=e
               cases P1:Gp.get h.nx with
               | none=>rw[P1] at e;cases e
               | some o'=>
                 rw[P1] at e
                 simp only[jf,P1]
                 exact e
         | _=>trivial
theorem Kl {fc call:bx} (hle:jR fc call) {ts:List AV} {h h':ar} {rc:RC} {dst:Option Tmp} {c:Call} {ty:TypeId} {pos:String} {after:Array Edge} {guard:Option (Nat×Bool)} {v:AV} (e:dv E fc ts h rc ⟨dst,.call c,ty,pos,after,guard⟩= .panic v h'):
 dv E call ts h rc ⟨dst,.call c,ty,pos,after,guard⟩= .panic v h':=by
 obtain ⟨eD,args,aT⟩:=c
 cases eD with
 | builtin b=>
   cases b<;>simp only[dv] at e<;>(try (simp at e;done))<;>(split at e<;>(try (simp at e;done))<;>(try (split at e<;>simp at e)))
 | value f=>
   simp only[dv] at e ⊢
   split at e
   · split at e
     · split at e<;>simp at e
     · split at e
       · simp at e
       · rename_i hc
         simp at e;obtain ⟨rfl,rfl⟩:=e
         simp only[(hle _ _ _).2 _ _ hc]
       · simp at e
   · simp at e
 | invoke x name=>
   simp only[dv] at e ⊢
   split at e
   · split at e
     · split at e
       · simp at e
       · rename_i hc
         simp at e;obtain ⟨rfl,rfl⟩:=e
         simp only[(hle _ _ _).2 _ _ hc]
       · simp at e
     · simp at e
   · simp at e
theorem nU.snoc {ops:Array Oper} {pl:lu} {c:List HS} {t:List Step} (h:nU E ops pl c t) {x:Step} (hs:∀h,jf E ops x h=true) (hm:madeOf x.kind=none):nU E ops pl c (t++[x]):=by
 induction h with
 | nil=>exact .skip hs hm .nil
 | skip a b _ ih=>exact .skip a b ih
 | Ng a b d e _ ih=>exact .Ng a b d e ih
theorem Nh (hn:n≤F.N) {fc call:bx} (hle:jR fc call) (ops:Array Oper) (pl:lu) (r:F.T) (h:ar) (y:Y):
 qn E F n (MS E F n ops pl fc r h y) (match db E call ops pl.order 0 ⟨eU F n r,h,y.ds,y.rc⟩ with
  | .ok tr hs s'=>if ph E ops pl tr hs then .ok .normal s' else .fail "still" (ops[0]?)
  | .fail why o=>match xh E call ops ⟨eU F n r,h,y.ds,y.rc⟩ pl with
    | some (v,s2)=> .ok (.panic v) s2
    | none=> .fail why o):=by
 unfold MS
 split
 · trivial
 rename_i i front Mv
 split
 · rename_i tr hs r1 h1 y1 dst c ty pos after guard hd ho
   split
   · rename_i v h' Ek Jr
     split
     · rename_i hl
       have hk:=yi (E:=E) hn hle ops pl front.reverse 0 r h y
       rw[hd] at hk
       obtain ⟨Eo,e1,e2⟩:=hk
       have Jn:pl.order=front.reverse++[i]:=by
        have:=congrArg List.reverse Mv
        simpa using this
       have SD:=Kl hle Jr
       have HB:=Ek
       simp only[Bool.and_eq_true] at HB
       obtain ⟨why,q,e3⟩:=vd ho HB.1.1 front.reverse 0 _ e1 HB.1.2 SD
       rw[Jn,e3]
       have Js:xh E call ops ⟨eU F n r,h,y.ds,y.rc⟩ pl=some (v,⟨eU F n r1,h',y1.ds,y1.rc⟩):=by
        unfold xh
        rw[Mv]
        simp only[e1,ho,Ek,if_true,SD]
        rw[if_pos (yh (e2.snoc (fun _=>rfl) rfl) hl)]
       simp only[Js]
       exact ⟨by simp,rfl⟩
     · trivial
   · trivial
 · trivial
theorem Km (hn:n≤F.N) {fc call:bx} (hle:jR fc call) (ops:Array Oper) (r:F.T) (h:ar) (y:Y):
 qn E F n ((Gr E F n ops).run fc r h y) (tu E call ops ⟨eU F n r,h,y.ds,y.rc⟩):=by
 unfold Gr tu
 rw[JO]
 cases qy E ops with
 | none=>trivial
 | some pl=>
   show qn E F n (DO.rec (motive:=fun _=>FO F.T) (fun tr hs r' h' y'=>bc (pF tr hs) (.CZ r' h' y') .bad) (MS E F n ops pl fc r h y) ((iY E F n ops pl pl.order 0).run fc r h y)) _
   have:=yi (E:=E) hn hle ops pl pl.order 0 r h y
   cases hd:(iY E F n ops pl pl.order 0).run fc r h y with
   | bad=>exact Nh hn hle ops pl r h y
   | ok tr hs r' h' y'=>
     rw[hd] at this
     obtain ⟨Eo,h1,h2⟩:=this
     show qn E F n (bc (pF tr hs) (.CZ r' h' y') .bad) _
     cases hl:pF tr hs with
     | false=>trivial
     | true=>
       simp only[h1]
       rw[if_pos (yh h2 hl)]
       rfl
end Go.Ab.Fa
end
section
namespace Go.Ab.Fa
variable {E:Env} {F:RF} {n:Nat}
theorem Dg {fc call:bx} (hle:jR fc call) {f:Operand} {ps:Array Tmp} {as bd:Code} {s:St} {e:j8} {s':St} (h:mj E fc f ps as bd s= .ok e s'):mj E call f ps as bd s= .ok e s':=by
 unfold mj at h ⊢
 split at h
 case h_2=>cases h
 rename_i g first captured hv
 split at h
 case h_2=>cases h
 rename_i dn h1 O7 ho
 split at h
 case h_2=>cases h
 rename_i h2 hn
 cases hc:fc (.fn g) (first++[.qt h1.nx]++captured) h2 with
 | ret v h3=>rw[hc] at h;rw[(hle _ _ _).1 _ _ hc];exact h
 | panic v h3=>rw[hc] at h;rw[(hle _ _ _).2 _ _ hc];exact h
 | fail why q=>rw[hc] at h;cases h
theorem H5 {call:bx} {f:Operand} {ps:Array Tmp} {as bd:Code} {s:St} {e:j8} {s':St} (h:mj E call f ps as bd s= .ok e s'):s'.ts=s.ts:=by
 unfold mj at h
 split at h
 case h_2=>cases h
 split at h
 case h_2=>cases h
 split at h
 case h_2=>cases h
 split at h
 · split at h
   · cases h
   · split at h
     · simp only[Out.ok.injEq] at h;rw[←h.2]
     · cases h
   · cases h
 · simp only[Out.ok.injEq] at h;rw[←h.2]
 · cases h
theorem Kn {o:FO F.T} {out:Out} (h:qn E F n o out) {k:F.T→ar→Y→FO F.T} {g:St→Out} (hk:∀r h y,qn E F n (k r h y) (g ⟨eU F n r,h,y.ds,y.rc⟩)):
 qn E F n (fo k .jmp .bad o) (match (generalizing:=false) out with | .ok .normal s'=>g s' | r=>r):=by
 cases o with
 | CZ r h' y=>rw[show out=_ from h];exact hk r h' y
 | jmp e r h' y=>
   obtain ⟨h1,h2⟩:=h
   rw[h2]
   cases e with
   | normal=>exact absurd rfl h1
   | _=>exact ⟨by simp,rfl⟩
 | bad=>trivial
theorem kK (hn:n≤F.N) {fc call:bx} (hle:jR fc call):∀(c:Code) (m:Nat) (r:F.T) (h:ar) (y:Y),
 qn E F n ((lX E F n c).run m fc r h y) (exec E call m c ⟨eU F n r,h,y.ds,y.rc⟩)
 | .skip,m,r,h,y=>by cases m with
   | zero=>trivial
   | succ m=>exact rfl
 | .label _,m,r,h,y=>by cases m with
   | zero=>trivial
   | succ m=>exact rfl
 | .ret,m,r,h,y=>by cases m with
   | zero=>trivial
   | succ m=>exact ⟨by simp,rfl⟩
 | .exit id,m,r,h,y=>by cases m with
   | zero=>trivial
   | succ m=>exact ⟨by simp,rfl⟩
 | .region _ ops draw,m,r,h,y=>by
   cases m with
   | zero=>cases draw<;>trivial
   | succ m=>cases draw with
     | true=>exact Km hn hle ops r h y
     | false=>exact yg hn hle ops ops.toList r h y
 | .seq a b,m,r,h,y=>by cases m with
   | zero=>trivial
   | succ m=>
     have h1:=kK hn hle a m r h y
     have h2:=kK hn hle b m
     exact Kn h1 (g:=fun s'=>exec E call m b s') h2
 | .cond x a b,m,r,h,y=>by
   have ha:=kK hn hle a
   have hb:=kK hn hle b
   show qn E F n (C.run (wO E F n x (fun g=>⟨fun m call r h y=>nS .bad (fun i=>jg (fun t=>bc t ((lX E F n a).run i call r h y) ((lX E F n b).run i call r h y)) .bad (g r)) m⟩) ⟨fun _ _ _ _ _=> .bad⟩) m fc r h y) _
   rcases ca E F n x (fun g=>(⟨fun m call r h y=>nS .bad (fun i=>jg (fun t=>bc t ((lX E F n a).run i call r h y) ((lX E F n b).run i call r h y)) .bad (g r)) m⟩:C F.T)) ⟨fun _ _ _ _ _=> .bad⟩ with hw | ⟨g,hw,hg⟩<;>rw[hw]
   · trivial
   cases m with
   | zero=>trivial
   | succ m=>
     show qn E F n (jg (fun t=>bc t ((lX E F n a).run m fc r h y) ((lX E F n b).run m fc r h y)) .bad (g r)) _
     rw[exec]
     simp only[hg]
     cases g r with
     | bool t=>cases t with
       | true=>exact ha m r h y
       | false=>exact hb m r h y
     | _=>trivial
 | .block id b,m,r,h,y=>by cases m with
   | zero=>trivial
   | succ m=>
     have hb:=kK hn hle b m r h y
     show qn E F n (fo .CZ (fun e r' h' y'=>JX (fun j=>bc (Nat.beq j id) (.CZ r' h' y') (.jmp e r' h' y')) (.jmp e r' h' y') e) .bad ((lX E F n b).run m fc r h y)) _
     rw[exec]
     cases hr:(lX E F n b).run m fc r h y with
     | bad=>trivial
     | CZ r' h' y'=>
       rw[hr] at hb
       have hb:exec E call m b _= .ok .normal ⟨eU F n r',h',y'.ds,y'.rc⟩:=hb
       rw[hb];exact rfl
     | jmp e r' h' y'=>
       rw[hr] at hb
       obtain ⟨h1,h2⟩:=hb
       rw[h2]
       cases e with
       | normal=>exact absurd rfl h1
       | exit j=>
         show qn E F n (bc (Nat.beq j id) (.CZ r' h' y') (.jmp (.exit j) r' h' y')) (if j=id then _ else _)
         cases hj:Nat.beq j id with
         | true=>rw[if_pos (mq hj)];exact rfl
         | false=>rw[if_neg (by intro e;rw[e,Nat.beq_refl] at hj;cases hj)];exact ⟨by simp,rfl⟩
       | ret=>exact ⟨by simp,rfl⟩
       | panic v=>exact ⟨by simp,rfl⟩
 | .loop b,m,r,h,y=>by
   have hb:=kK hn hle b
   show qn E F n (JY (lX E F n b) m fc r h y) _
   induction m generalizing r h y with
   | zero=>trivial
   | succ m ih=>
     show qn E F n (fo (fun r' h' y'=>JY (lX E F n b) m fc r' h' y') .jmp .bad ((lX E F n b).run m fc r h y)) _
     exact Kn (hb m r h y) (g:=fun s'=>exec E call m (.loop b) s') ih
 | .rangeFunc f ps as bd,m,r,h,y=>by
   show qn E F n ((MT (Bo E F n f ps as bd)).run m fc r h y) _
   cases m with
   | zero=>trivial
   | succ m=>
     show qn E F n ((Bo E F n f ps as bd).run fc r h y) (mj E call f ps as bd ⟨eU F n r,h,y.ds,y.rc⟩)
     unfold Bo
     rcases ca E F n f (fun _=>(⟨fun call r h y=>Oz r (mj E call f ps as bd ⟨eU F n r,h,y.ds,y.rc⟩)⟩:I F.T)) ⟨fun _ _ _ _=> .bad⟩ with hw | ⟨g,hw,_⟩<;>rw[hw]
     · trivial
     simp only
     cases hr:mj E fc f ps as bd ⟨eU F n r,h,y.ds,y.rc⟩ with
     | fail _ _=>trivial
     | ok e s=>
       rw[Dg hle hr]
       have ht:=H5 hr
       obtain ⟨ts,hh,ds,rc⟩:=s
       simp only at ht
       subst ht
       cases e with
       | normal=>exact rfl
       | _=>exact ⟨by simp,rfl⟩
 | .scope b,m,r,h,y=>by cases m with
   | zero=>trivial
   | succ m=>exact kK hn hle b m r h y
 | .goto _,m,r,h,y=>trivial
 | .refuse _,m,r,h,y=>trivial
theorem tV:∀(l:List ResultVar) (r:F.T) (h:ar) (vs:List AV),(vm E F n l).f r h=some vs→jM E h (eU F n r) l=some vs
 | [],r,h,vs,e=>e
 | .tmp t::rest,r,h,vs,e=>by
   rw[vm] at e
   obtain ⟨g,h1,h2⟩:=Br F n t (fun g=>wW (vm E F n rest) fun k=>(⟨fun r h=>ob none (fun vs=>some (g r::vs)) (k r h)⟩:W (F.T→ar→Option (List AV))))
   rw[h1] at e
   obtain ⟨pt,h3,h4⟩:=gM (show ob none (fun vs=>some (g r::vs)) ((vm E F n rest).f r h)=some vs from e)
   rw[jM]
   simp only[h2,tV rest r h pt h3]
   exact h4
 | .cell a t::rest,r,h,vs,e=>by
   rw[vm] at e
   obtain ⟨g,h1,h2⟩:=Br F n a (fun g=>wW (vm E F n rest) fun k=>(⟨fun r h=>ob none (fun v=>ob none (fun vs=>some (v::vs)) (k r h)) (bN E h t (g r))⟩:W (F.T→ar→Option (List AV))))
   rw[h1] at e
   obtain ⟨v,h3,h4⟩:=gM (show ob none (fun v=>ob none (fun vs=>some (v::vs)) ((vm E F n rest).f r h)) (bN E h t (g r))=some vs from e)
   obtain ⟨pt,h5,h6⟩:=gM h4
   rw[jM]
   simp only[h2,h3,tV rest r h pt h5]
   exact h6
def VS (E:Env) (rs:List ResultVar) (b:BO) (out:Out):Prop:=match b with
 | .fin res h y=>∃e ts,(e= .normal∨e= .ret)∧out= .ok e ⟨ts,h,y.ds,y.rc⟩∧∀h' vs,res h'=some vs→jM E h' ts rs=some vs
 | .Sy v res h y=>∃ts,out= .ok (.panic v) ⟨ts,h,y.ds,y.rc⟩∧∀h' vs,res h'=some vs→jM E h' ts rs=some vs
 | .bad=>True
theorem Dh {fc call:bx} (hle:jR fc call) (F:RF) (fn:Func) (hn:fn.ntmps≤F.N) (b:Code) (fuel:Nat) (args:List AV) (h:ar) (rc:RC):
 VS E fn.results.toList ((JZ E F fn.ntmps fn b).run fuel fc args h rc) (mA E call fuel fn b args h rc):=by
 show VS E _ (bc (Nat.ble (iG args) fn.ntmps)
  (fo (fun r h' y=> .fin ((vm E F fn.ntmps fn.results.toList).f r) h' y) (fun e r h' y=>j8.rec (motive:=fun _=>BO) .bad (fun _=> .bad) (.fin ((vm E F fn.ntmps fn.results.toList).f r) h' y) (fun v=> .Sy v ((vm E F fn.ntmps fn.results.toList).f r) h' y) e) .bad
   ((lX E F fn.ntmps b).run fuel fc (IU F args F.z 0) h ⟨[],rc⟩)) .bad) _
 cases hl:Nat.ble (iG args) fn.ntmps with
 | false=>trivial
 | true=>
   have hl:=fJ hl
   rw[fT] at hl
   have:=kK (E:=E) hn hle b fuel (IU F args F.z 0) h ⟨[],rc⟩
   rw[Gc F fn.ntmps hn args hl] at this
   rw[iZ]
   unfold mA
   cases hr:(lX E F fn.ntmps b).run fuel fc (IU F args F.z 0) h ⟨[],rc⟩ with
   | bad=>trivial
   | CZ r h' y=>
     rw[hr] at this
     exact ⟨.normal,_,.inl rfl,this,fun Gp vs e=>tV _ r Gp vs e⟩
   | jmp e r h' y=>
     rw[hr] at this
     obtain ⟨h1,h2⟩:=this
     cases e with
     | normal=>exact absurd rfl h1
     | exit _=>trivial
     | ret=>exact ⟨.ret,_,.inr rfl,h2,fun Gp vs e=>tV _ r Gp vs e⟩
     | panic v=>exact ⟨_,h2,fun Gp vs e=>tV _ r Gp vs e⟩
theorem Di {fc call:bx} (hle:jR fc call) (f:FuncId) (fuel:Nat) (args:List AV) (h:ar) (rc:RC):
 (v7 E f).run fuel fc args h rc= .bad∨∃fn b,E.P.funcs[f]? =some fn∧fn.body=some b∧VS E fn.results.toList ((v7 E f).run fuel fc args h rc) (mA E call fuel fn b args h rc):=by
 unfold v7
 rw[MK]
 cases hf:E.P.funcs[f]? with
 | none=>exact .inl rfl
 | some fn=>
   simp only
   cases hb:fn.body with
   | none=>exact .inl rfl
   | some b=>
     refine .inr ⟨fn,b,rfl,hb,?_⟩
     simp only
     cases h1:Nat.ble fn.ntmps 64 with
     | true=>exact Dh hle Uu fn (fJ h1) b fuel args h rc
     | false=>cases h2:Nat.ble fn.ntmps 512 with
       | true=>exact Dh hle Uv fn (fJ h2) b fuel args h rc
       | false=>trivial
theorem qW {fc call:bx} (hle:jR fc call) {fuel:Nat} {c:Code} {s:St} {e:j8} {s':St} (h:Gt E fc fuel c s= .ok e s'):exec E call fuel c s= .ok e s':=by
 have key:∀F:RF,s.ts.length≤F.N→Gs E F fc fuel c s= .ok e s'→exec E call fuel c s= .ok e s':=by
  intro F hn hx
  have:=kK (E:=E) hn hle c fuel (IU F s.ts F.z 0) s.h ⟨s.ds,s.rc⟩
  rw[Gc F s.ts.length hn s.ts (Nat.le_refl _),Nat.sub_self,List.replicate_zero,List.append_nil] at this
  unfold Gs at hx
  cases hr:(lX E F s.ts.length c).run fuel fc (IU F s.ts F.z 0) s.h ⟨s.ds,s.rc⟩ with
  | bad=>rw[hr] at hx;cases hx
  | CZ r h' y=>rw[hr] at hx this;rw[show exec E call fuel c s=_ from this];exact hx
  | jmp e' r h' y=>rw[hr] at hx this;rw[show exec E call fuel c s=_ from this.2];exact hx
 unfold Gt at h
 cases h1:Nat.ble s.ts.length 64 with
 | true=>rw[h1] at h;exact key Uu (fJ h1) h
 | false=>cases h2:Nat.ble s.ts.length 512 with
   | true=>rw[h1,h2] at h;exact key Uv (fJ h2) h
   | false=>rw[h1,h2] at h;cases h
noncomputable def By (E:Env) (call:bx) (fuel:Nat) (g:FuncId) (as:List AV) (h:ar) (rc:RC):Option (ar×RC):=match E.P.funcs[g]? with
 | none=>none
 | some fg=>match fg.body with
   | none=>none
   | some bg=>match mA E call fuel fg bg as h rc with
     | .ok .normal s'=>if s'.ds.isEmpty&&(jM E s'.h s'.ts fg.results.toList).isSome then some (s'.h,s'.rc) else none
     | .ok .ret s'=>if s'.ds.isEmpty&&(jM E s'.h s'.ts fg.results.toList).isSome then some (s'.h,s'.rc) else none
     | _=>none
theorem Ko {fc call:bx} (hle:jR fc call) {fuel:Nat} {g:FuncId} {as:List AV} {h:ar} {rc:RC} {p:ar×RC} (e:ia E fc fuel g as h rc=some p):By E call fuel g as h rc=some p:=by
 unfold ia at e
 rcases Di (E:=E) hle g fuel as h rc with h1 | ⟨fn,b,h1,h2,h3⟩
 · rw[h1] at e;cases e
 · unfold By
   rw[h1];simp only;rw[h2];simp only
   cases hr:(v7 E g).run fuel fc as h rc with
   | bad=>rw[hr] at e;cases e
   | Sy v res h' y=>rw[hr] at e;cases e
   | fin res h' y=>
     rw[hr] at e h3
     obtain ⟨x,ts,h4,h5,h6⟩:=h3
     obtain ⟨h7,e1⟩:=fU (show bc y.ds.isEmpty (ob none (fun _=>some (h',y.rc)) (res h')) none=some p from e)
     obtain ⟨vs,h8,e2⟩:=gM e1
     rw[h5]
     rcases h4 with rfl | rfl
     · simp only[h7,h6 h' vs h8,Option.isSome_some,Bool.and_self,if_true];exact e2
     · simp only[h7,h6 h' vs h8,Option.isSome_some,Bool.and_self,if_true];exact e2
theorem kL {f g:FuncId→List AV→ar→RC→Option (ar×RC)} (RD:∀k as h rc p,f k as h rc=some p→g k as h rc=some p):∀(ds:List pf) (p:Option AV) (h:ar) {q:Option AV×ar},dk f ds p h=some q→dk g ds p h=some q
 | [],p,h,q,e=>by cases p<;>exact e
 | .Rm r::ds,p,h,q,e=>by
   rw[dk] at e ⊢
   split at e
   · exact kL RD ds p _ e
   · cases e
 | .call k as::ds,none,h,q,e=>by
   rw[dk] at e ⊢
   cases hf:f k as h .no with
   | none=>rw[hf] at e;cases e
   | some p=>rw[hf] at e;rw[RD _ _ _ _ _ hf];obtain ⟨h',My⟩:=p;exact kL RD ds none h' e
 | .call k as::ds,some v,h,q,e=>by
   rw[dk] at e ⊢
   cases hf:f k as h (.iE v) with
   | none=>rw[hf] at e;cases e
   | some p=>
     rw[hf] at e;rw[RD _ _ _ _ _ hf];obtain ⟨h',My⟩:=p
     cases My with
     | iE w=>exact kL RD ds _ h' e
     | done=>exact kL RD ds _ h' e
     | _=>cases e
theorem H6 {fc call:bx} (hle:jR fc call) (fuel:Nat) (l:Nat) (args:List AV) (h:ar):(∀v h',x9 E fc fuel l args h= .ret v h'→sw E call fuel l args h= .ret v h')∧∀v h',x9 E fc fuel l args h= .panic v h'→sw E call fuel l args h= .panic v h':=by
 have key:∀out:iT,(∀why o,out≠ .fail why o)→x9 E fc fuel l args h=out→sw E call fuel l args h=out:=by
  intro out ox e
  unfold x9 at e
  unfold sw
  split at e
  case h_2=>exact absurd e.symm (ox _ _)
  rename_i st pd ts ps as bd dn hg
  rw[hg]
  simp only
  by_cases ha:args.length=ps.length
  · rw[if_pos ha] at e ⊢
    split at e
    · rename_i s1 h1
      rw[qW hle h1]
      simp only
      split at e
      · rename_i pd O8 N8 Ma O9 O_ YH
        rw[YH]
        simp only
        split at e
        · rename_i s2 h2;rw[qW hle h2];exact e
        · rename_i s2 h2;rw[qW hle h2];exact e
        · rename_i id s2 h2;rw[qW hle h2];exact e
        · rename_i v s2 h2;rw[qW hle h2];exact e
        · exact absurd e.symm (ox _ _)
      · exact absurd e.symm (ox _ _)
    · exact absurd e.symm (ox _ _)
    · exact absurd e.symm (ox _ _)
  · rw[if_neg ha] at e;exact absurd e.symm (ox _ _)
 exact ⟨fun v h' e=>key _ (by simp) e,fun v h' e=>key _ (by simp) e⟩
noncomputable def Kp (E:Env) (call:bx) (fuel:Nat) (fn:Func) (p:Option AV) (s:St):iT:=match dk (By E call fuel) s.ds p s.h with
 | none=> .fail "unwind" none
 | some (some v,h')=> .panic v h'
 | some (none,h')=>match jM E h' s.ts fn.results.toList with
   | some vs=> .ret (hG vs) h'
   | none=> .fail "results" none
theorem E6 (d fuel:Nat) {f:FuncId} {fn:Func} {b:Code} (hf:E.P.funcs[f]? =some fn) (hb:fn.body=some b) (args:List AV) (h:ar):
 gI E (d+1) fuel (.fn f) args h=(match mA E (gI E d fuel) fuel fn b args h .no with
  | .ok .normal s=>Kp E (gI E d fuel) fuel fn none s
  | .ok .ret s=>Kp E (gI E d fuel) fuel fn none s
  | .ok (.panic v) s=>Kp E (gI E d fuel) fuel fn (some v) s
  | .ok (.exit _) _=> .fail "exit" none
  | .fail why o=> .fail (why++ " in " ++fn.name) o):=by
 rw[gI]
 simp only[hf,hb]
 rfl
theorem GF {fc call:bx} (hle:jR fc call) {fuel:Nat} {fn:Func} {p:Option AV} {res:ar→Option (List AV)} {ts:List AV} {h:ar} {y:Y} (zC:∀h' vs,res h'=some vs→jM E h' ts fn.results.toList=some vs) {out:iT} (ho:∀why o,out≠ .fail why o)
 (e:C5 (p.elim (ob (.fail "results" none) (fun vs=>iT.ret (hG vs) h) (res h)) (fun v=> .panic v h)) (C4 E fc fuel p res h y.ds) y.ds=out):Kp E call fuel fn p ⟨ts,h,y.ds,y.rc⟩=out:=by
 unfold Kp
 cases hd:y.ds with
 | nil=>
   rw[hd] at e
   cases p with
   | some v=>exact e
   | none=>
     have e:ob (.fail "results" none) (fun vs=>iT.ret (hG vs) h) (res h)=out:=e
     cases hr:res h with
     | none=>rw[hr] at e;exact absurd e.symm (ho _ _)
     | some vs=>
       rw[hr] at e
       simp only[dk,zC h vs hr]
       exact e
 | cons d ds=>
   rw[hd] at e
   have e:C4 E fc fuel p res h (d::ds)=out:=e
   unfold C4 at e
   cases hu:dk (ia E fc fuel) (d::ds) p h with
   | none=>rw[hu] at e;exact absurd e.symm (ho _ _)
   | some q=>
     rw[hu] at e
     have:=kL (g:=By E call fuel) (fun k as h rc p e=>Ko hle e) (d::ds) p h hu
     simp only[this]
     obtain ⟨q1,h'⟩:=q
     cases q1 with
     | some v=>exact e
     | none=>
       have e:ob (.fail "results" none) (fun vs=>iT.ret (hG vs) h') (res h')=out:=e
       cases hr:res h' with
       | none=>rw[hr] at e;exact absurd e.symm (ho _ _)
       | some vs=>rw[hr] at e;simp only[zC h' vs hr];exact e
theorem Dj (fuel:Nat):∀d,jR (v8 E d fuel) (gI E d fuel)
 | 0=>fun _ _ _=>⟨fun _ _ e=>(by cases e),fun _ _ e=>(by cases e)⟩
 | d+1=>by
   have ih:=Dj fuel d
   intro g args h
   cases g with
   | vN l=>exact H6 ih fuel l args h
   | fn f=>
     have key:∀out:iT,(∀why o,out≠ .fail why o)→v8 E (d+1) fuel (.fn f) args h=out→gI E (d+1) fuel (.fn f) args h=out:=by
      intro out ho e
      have e:bo (fun res h' y=>C5 (ob (.fail "results" none) (fun vs=>iT.ret (hG vs) h') (res h')) (C4 E (v8 E d fuel) fuel none res h' y.ds) y.ds)
       (fun v res h' y=>C5 (.panic v h') (C4 E (v8 E d fuel) fuel (some v) res h' y.ds) y.ds) (.fail "body" none) ((v7 E f).run fuel (v8 E d fuel) args h .no)=out:=e
      rcases Di (E:=E) ih f fuel args h .no with h1 | ⟨fn,b,h1,h2,h3⟩
      · rw[h1] at e;exact absurd e.symm (ho _ _)
      · rw[E6 d fuel h1 h2]
        cases hr:(v7 E f).run fuel (v8 E d fuel) args h .no with
        | bad=>rw[hr] at e;exact absurd e.symm (ho _ _)
        | fin res h' y=>
          rw[hr] at e h3
          obtain ⟨x,ts,h4,h5,h6⟩:=h3
          have:=GF (E:=E) ih (fn:=fn) (p:=none) h6 ho e
          rw[h5]
          rcases h4 with rfl | rfl<;>exact this
        | Sy v res h' y=>
          rw[hr] at e h3
          obtain ⟨ts,h5,h6⟩:=h3
          have:=GF (E:=E) ih (fn:=fn) (p:=some v) h6 ho e
          rw[h5];exact this
     exact ⟨fun v h' e=>key _ (by simp) e,fun v h' e=>key _ (by simp) e⟩
theorem yj {d fuel:Nat} {f:FuncId} {args:List AV} {h h':ar} {v:AV} (e:v8 E d fuel (.fn f) args h= .ret v h'):gI E d fuel (.fn f) args h= .ret v h':=
 (Dj fuel d _ _ _).1 v h' e
end Go.Ab.Fa
end
section
namespace Go.Ab
structure Xz (P:Program) (f:FuncId) (e:Array Value→Sem Value):Prop where
 ZE:∃fn,P.funcs[f]? =some fn∧(fn.name== "runtime.NumGoroutine")=false∧fn.body.isNone=true∧Extern.findNext fn=none∧Extern.find fn=some e
section
open Fa
noncomputable def l3 {R:Type} (f:AV→AV→AV→R) (d:R) (l:List AV):R:=
 List.rec (motive:=fun _=>R) d (fun a tl _=>List.rec (motive:=fun _=>R) d (fun b tl _=>List.rec (motive:=fun _=>R) d (fun c tl _=>List.rec (motive:=fun _=>R) (f a b c) (fun _ _ _=>d) tl) tl) tl) l
noncomputable def l2 {R:Type} (f:AV→AV→R) (d:R) (l:List AV):R:=
 List.rec (motive:=fun _=>R) d (fun a tl _=>List.rec (motive:=fun _=>R) d (fun b tl _=>List.rec (motive:=fun _=>R) (f a b) (fun _ _ _=>d) tl) tl) l
end
open Fa
end Go.Ab
end
section
namespace Go.Ab
open Go.Maps Go.WideElems Go.RowKit Go.Proofs
section
open Fa
noncomputable def l1 {R:Type} (f:AV→R) (d:R) (l:List AV):R:=List.rec (motive:=fun _=>R) d (fun a tl _=>List.rec (motive:=fun _=>R) (f a) (fun _ _ _=>d) tl) l
end
open Fa
theorem OK.later {E:Env} {φ:Ph} {h:ar} {w w':World} (ok:OK E φ h w) (b:Below w.heap.size w w'):OK E φ h w'∧Fr φ h w φ h w':=by
 have zu:∀j p m,h.get j=some p→φ j=some m→m.gG<w.heap.size:=fun j p m hj hm=>by
  have zl:=ok.live j p m hj hm
  rcases Nat.lt_or_ge m.gG w.heap.size with a | a
  · exact a
  · exfalso
    rw[Array.getElem?_eq_none a] at zl
    exact zl.absurd
 refine ⟨⟨ok.wB,ok.nx,ok.sx,fun i o l h1 h2=>?_,ok.inj⟩,⟨Ph.le_refl φ,fun _ _=>rfl,Nat.le_refl _,b.os,b.tape,b.output,b.size,fun c hc _=>b.block c hc,fun i o l h1 h2 h3=> .inr ⟨i,o,l,h1,h2,h3,rfl⟩⟩⟩
 rw[b.block _ (zu i o l h1 h2)]
 exact ok.live i o l h1 h2
end Go.Ab
end
section
namespace Go.Ab
structure Ni where
 g:Nat
 k:IntKind
 ns:List Nat
 t:TypeId
def Ni.cells (x:Ni):List AV:=x.ns.map fun n=>AV.int x.k (Int.ofNat n)
noncomputable def kM (G:Nat):List Ni→ar
 | []=>⟨HT.nil,G,fun _=>none⟩
 | x::xs=>(kM G xs).put x.g (some (.cells x.cells x.t true))
theorem Nj (i:Nat) (G:Nat):(ar.mk HT.nil G fun _=>none).get i=none:=by
 by_cases hi:i<262144
 · rw[ar.sy hi]
   rw[xq hi,uS,xp]
   simp only[HT.nil,wY]
 · rw[ar.pj hi]
theorem vq (G:Nat):∀l,(kM G l).nx=G
 | []=>rfl
 | _::xs=>vq G xs
theorem pI {G:Nat}:∀{l:List Ni} {i:Nat} {o:aH},(kM G l).get i=some o→∃x∈l,x.g=i∧o= .cells x.cells x.t true
 | [],i,o,e=>by rw[kM,Nj] at e;cases e
 | x::xs,i,o,e=>by
   rw[kM] at e
   by_cases h:x.g=i
   · subst h
     rw[ar.eF] at e
     exact ⟨x,by simp,rfl,(Option.some.inj e).symm⟩
   · rw[ar.cZ h] at e
     obtain ⟨y,hy,h1,h2⟩:=pI e
     exact ⟨y,by simp [hy],h1,h2⟩
def SF (w:World) (x:Ni):Prop:=∃C e fz,w.heap[x.g]? =some (.cells C e fz)∧C.toList=x.ns.map fun n=>Value.int x.k (Int.ofNat n)
def OC (G:Nat):Ph:=fun i=>if i<G then some ⟨i,0,0⟩ else none
theorem OK.begin {E:Env} {w:World} {l:List Ni} (hl:∀x∈l,x.g<E.G∧SF w x):OK E (OC E.G) (kM E.G l) w:=by
 refine ⟨fun i l' h=>?_,?_,fun g hg=>?_,fun i o l' h1 h2=>?_,fun i j o p l' m _ _ h3 h4 _ h5=>?_⟩
 · unfold OC at h;rw[vq];split at h
   · assumption
   · cases h
 · rw[vq];exact Nat.le_refl _
 · unfold OC;rw[if_pos hg]
 · obtain ⟨x,hx,rfl,rfl⟩:=pI h1
   obtain ⟨hg,C,e,⟨lo,hi⟩,hw,hC⟩:=hl x hx
   unfold OC at h2;rw[if_pos hg] at h2
   obtain rfl:=Option.some.inj h2
   refine ⟨C,e,lo,hi,hw,?_,?_,(fun h=>by cases h),fun _ _ _=>rfl⟩
   · have:C.size=x.ns.length:=by rw[←Array.length_toList,hC,List.length_map]
     simp [Ni.cells,fI,this]
   · intro k y hk
     simp only[Ni.cells,List.getElem?_map,Option.map_eq_some_iff] at hk
     obtain ⟨n,hn,rfl⟩:=hk
     refine ⟨.int x.k (Int.ofNat n),?_,.int _ _⟩
     rw[Nat.zero_add,←Array.getElem?_toList,hC,List.getElem?_map,hn];rfl
 · unfold OC at h3 h4
   split at h3
   · split at h4
     · obtain rfl:=Option.some.inj h3
       obtain rfl:=Option.some.inj h4
       exact h5
     · cases h4
   · cases h3
noncomputable def tW (o:iT):Bool:=iT.rec (motive:=fun _=>Bool) (fun v _=>Fa.jg (fun b=>b) false v) (fun _ _=>false) (fun _ _=>false) o
theorem wa {o:iT} (h:tW o=true):∃h',o= .ret (.bool true) h':=by
 cases o with
 | ret v h'=>
   cases v with
   | bool b=>exact ⟨h',by rw[show b=true from h]⟩
   | _=>cases h
 | panic v h'=>cases h
 | fail _ _=>cases h
end Go.Ab
end
section
namespace Go.Ab
variable {E:Env}
noncomputable def rT (E:Env) (call:bx) (fuel:Nat) (fn:Func) (p:Option AV) (s:St):iT:=match dk (ia E call fuel) s.ds p s.h with
 | none=> .fail "unwind" none
 | some (some v,h')=> .panic v h'
 | some (none,h')=>match jM E h' s.ts fn.results.toList with
   | some vs=> .ret (hG vs) h'
   | none=> .fail "results" none
noncomputable def wc (E:Env) (call:bx) (fuel:Nat) (f:FuncId) (args:List AV) (h:ar):iT:=match E.P.funcs[f]? with
 | none=> .fail "no function" none
 | some fn=>match fn.body with
   | none=> .fail ("no body " ++fn.name) none
   | some b=>match mA E call fuel fn b args h .no with
     | .ok .normal s=>rT E call fuel fn none s
     | .ok .ret s=>rT E call fuel fn none s
     | .ok (.panic v) s=>rT E call fuel fn (some v) s
     | .ok (.exit _) _=> .fail "exit" none
     | .fail why o=> .fail (why++ " in " ++fn.name) o
theorem nV (hE:jX E) (fuel:Nat) {call:bx} (ih:ie E call):(∀f args h v h',wc E call fuel f args h= .ret v h'→kH E f args h v h')∧(∀f args h v h',wc E call fuel f args h= .panic v h'→F7 E f args h v h'):=by
 have key:∀(f:FuncId) (args:List AV) (h:ar) (out:iT),wc E call fuel f args h=out→(∀why q,out≠ .fail why q)→
  ∃fn c e s p,E.P.funcs[f]? =some fn∧fn.body=some c∧mA E call fuel fn c args h .no= .ok e s∧
   ((p=none∧(e= .normal∨e= .ret))∨∃v,p=some v∧e= .panic v)∧
   ((∃v h',out= .panic v h'∧dk (ia E call fuel) s.ds p s.h=some (some v,h'))∨
    ∃vs h',out= .ret (hG vs) h'∧dk (ia E call fuel) s.ds p s.h=some (none,h')∧jM E h' s.ts fn.results.toList=some vs):=by
  intro f args h out e eC
  unfold wc at e
  split at e
  · exact absurd e.symm (eC _ _)
  rename_i fn hf
  split at e
  · exact absurd e.symm (eC _ _)
  rename_i c hb
  have fin:∀(p:Option AV) (s:St),rT E call fuel fn p s=out→
   ((∃v h',out= .panic v h'∧dk (ia E call fuel) s.ds p s.h=some (some v,h'))∨
    ∃vs h',out= .ret (hG vs) h'∧dk (ia E call fuel) s.ds p s.h=some (none,h')∧jM E h' s.ts fn.results.toList=some vs):=by
   intro p s hm
   unfold rT at hm
   split at hm
   · exact absurd hm.symm (eC _ _)
   · rename_i v h' hu;exact .inl ⟨v,h',hm.symm,hu⟩
   · rename_i h' hu
     split at hm
     · rename_i vs hv;exact .inr ⟨vs,h',hm.symm,hu,hv⟩
     · exact absurd hm.symm (eC _ _)
  split at e
  · rename_i s gv;exact ⟨fn,c,_,s,none,hf,hb,gv,.inl ⟨rfl,.inl rfl⟩,fin none s e⟩
  · rename_i s gv;exact ⟨fn,c,_,s,none,hf,hb,gv,.inl ⟨rfl,.inr rfl⟩,fin none s e⟩
  · rename_i v s gv;exact ⟨fn,c,_,s,some v,hf,hb,gv,.inr ⟨v,rfl,rfl⟩,fin (some v) s e⟩
  · exact absurd e.symm (eC _ _)
  · exact absurd e.symm (eC _ _)
 have run:∀(f:FuncId) (fn:Func) (c:Code) (args:List AV) (h:ar) (e:j8) (s:St) (p p':Option AV) (h':ar),E.P.funcs[f]? =some fn→fn.body=some c→mA E call fuel fn c args h .no= .ok e s→
  ((p=none∧(e= .normal∨e= .ret))∨∃v,p=some v∧e= .panic v)→dk (ia E call fuel) s.ds p s.h=some (p',h')→
  ∀(φ:Ph) (w:World) (vs:List Value),OK E φ h w→LR φ args vs→∀cs,∃φ' w' m' tmps todo,OK E φ' h' w'∧Fr φ h w φ' h' w'∧LR φ' s.ts tmps.toList∧
   ((p'=none∧m'= .returning)∨∃v v',p'=some v∧VR φ' v v'∧m'= .panicking [{v:=v',recovered:=false}])∧
   Steps E.P (lone (Frame.enter E.P f vs.toArray .normal) cs w) (lone {(bare f .normal).atR {tmps,defers:=[]} todo with mode:=m'} cs w'):=by
  intro f fn c args h e s p p' h' hf hb gv hp hu φ w vs ok hl cs
  obtain ⟨φ1,w1,a1,e1,x1,x2,x3,x4,x5,x6⟩:=(qM hE ih hf hb gv ok hl (kind:= .normal) (K:=fun _=>cs) ⟨rfl,fun fr hk=>by simp [tryRecover,show fr.kind= .normal from hk]⟩).is
  have CL:cur (fun _=>cs) s.rc=cs:=by cases s.rc<;>rfl
  have JC:cur (fun _=>cs) RC.no=cs:=rfl
  rw[CL] at x6
  rw[JC] at x6
  have hm:∃todo m,((p=none∧m= .returning)∨∃v v',p=some v∧VR φ1 v v'∧m= .panicking [{v:=v',recovered:=false}])∧
   Steps E.P (lone (Frame.enter E.P f vs.toArray .normal) cs w) (lone {(bare f .normal).atR a1 todo with mode:=m} cs w1):=by
   rcases hp with ⟨rfl,rfl | rfl⟩ | ⟨v,rfl,rfl⟩
   · cases x1;exact ⟨[],.returning,.inl ⟨rfl,rfl⟩,Steps.trans x6 (.one (stepR_end rfl))⟩
   · cases x1;obtain ⟨todo,hs⟩:=x6;exact ⟨_,.returning,.inl ⟨rfl,rfl⟩,Steps.trans hs (.one (stepR_ret rfl))⟩
   · cases x1 with
     | panic _ v' hv=>obtain ⟨todo,hs⟩:=x6;exact ⟨todo,_,.inr ⟨v,v',rfl,hv,rfl⟩,hs⟩
  obtain ⟨todo,m,VK,qp⟩:=hm
  obtain ⟨φ2,w2,m2,xO,f2,JB,VL⟩:=jA hE ih s.ds hu (fr:={(bare f .normal).atR a1 todo with mode:=m}) (cs:=cs) x3 x2.ds (by
   rcases VK with ⟨e,em⟩ | ⟨v,v',e,hv,em⟩
   · exact .inl ⟨e,em⟩
   · exact .inr ⟨v,v',e,hv,em⟩)
  exact ⟨φ2,w2,m2,a1.tmps,todo,xO,x4.trans f2,x2.ts.mono f2.ext,JB,Steps.trans qp VL⟩
 refine ⟨fun f args h v h' e=>?_,fun f args h v h' e=>?_⟩
 · obtain ⟨fn,c,e1,s,p,hf,hb,gv,hp,ox⟩:=key f args h _ e (by simp)
   rcases ox with ⟨v1,h1,he,_⟩ | ⟨VM,h1,he,hu,zC⟩
   · simp at he
   · simp at he;obtain ⟨rfl,rfl⟩:=he
     intro φ w vs ok hl
     refine ⟨enters hE hf hb _ w,fun cs=>?_⟩
     obtain ⟨φ',w',m',tmps,todo,qq,fr,ht,hm,hs⟩:=run f fn c args h e1 s p none h' hf hb gv hp hu φ w vs ok hl cs
     obtain ⟨v',hv,hH⟩:=qL qq ht zC
     rcases hm with ⟨_,rfl⟩ | ⟨v,Yz,e,_⟩
     · exact ⟨φ',w',v',_,hv,qq,fr,hs,rfl,rfl,rfl,rfl,fn,hf,hH⟩
     · simp at e
 · obtain ⟨fn,c,e1,s,p,hf,hb,gv,hp,ox⟩:=key f args h _ e (by simp)
   rcases ox with ⟨v1,h1,he,hu⟩ | ⟨VM,h1,he,_⟩
   · simp at he;obtain ⟨rfl,rfl⟩:=he
     intro φ w vs ok hl
     refine ⟨enters hE hf hb _ w,fun cs=>?_⟩
     obtain ⟨φ',w',m',tmps,todo,qq,fr,ht,hm,hs⟩:=run f fn c args h e1 s p (some v) h' hf hb gv hp hu φ w vs ok hl cs
     rcases hm with ⟨e,_⟩ | ⟨v2,v',e,hv,rfl⟩
     · simp at e
     · simp at e;subst e
       exact ⟨φ',w',v',_,hv,qq,fr,hs,rfl,rfl,rfl,fn,hf⟩
   · simp at he
namespace Fa
abbrev Dk:=FuncId→List AV→ar→Option (AV×ar)
def Bz (E:Env) (M:Dk):Prop:=∀f args h v h',M f args h=some (v,h')→kH E f args h v h'
noncomputable def Dl (nx:Nat) (l:List (Nat×aH)):ar:=List.rec (motive:=fun _=>ar) ⟨HT.nil,nx,fun _=>none⟩ (fun x _ h=>h.put x.1 (some x.2)) l
theorem An {nx:Nat}:∀{l:List (Nat×aH)} {i:Nat} {o:aH},(Dl nx l).get i=some o→(i,o)∈l
 | [],i,o,e=>by
   have e:(ar.mk HT.nil nx fun _=>none).get i=some o:=e
   by_cases hi:i<262144
   · rw[ar.sy hi] at e
     have e:(hp i).get HT.nil=some o:=e
     rw[xq hi,uS,xp] at e
     simp only[HT.nil,wY] at e
     cases e
   · rw[ar.pj hi] at e;cases e
 | x::xs,i,o,e=>by
   have e:((Dl nx xs).put x.1 (some x.2)).get i=some o:=e
   by_cases h:x.1=i
   · subst h
     rw[ar.eF] at e
     cases e;simp
   · rw[ar.cZ h] at e
     exact List.mem_cons_of_mem _ (An e)
structure ZF where
 f:FuncId
 args:List AV
 nx:Nat
 K:List (Nat×aH)
 v:AV
 ZG:Nat
 K':List (Nat×aH)
end Fa
end Go.Ab
end
section
namespace Go.Ab
variable {E:Env}
theorem LR.tX {φ φ':Ph} {xs:List AV} {ys zs:List Value} (h:LR φ xs ys) (h':LR φ' xs zs) (ih:∀(i:Nat) (x:AV) (y z:Value),xs[i]? =some x→ys[i]? =some y→zs[i]? =some z→VR φ x z):LR φ xs zs:=by
 refine ⟨h'.1,fun i x z hx hz=>?_⟩
 have hi:i<xs.length:=(List.getElem?_eq_some_iff.1 hx).1
 have:i<ys.length:=by rw[←h.1];exact hi
 exact ih i x ys[i] z hx (by simp [this]) hz
theorem VR.back {φ φ':Ph} (hle:φ.le φ') {x:AV} {y:Value} (h:VR φ x y):∀{z:Value},VR φ' x z→VR φ x z:=by
 induction h with
 | bool b=>intro z h;cases h;exact .bool b
 | int k n=>intro z h;cases h;exact .int k n
 | str s=>
   intro z h
   generalize he:AV.str s.data.toList=q at h
   cases h with
   | str s'=>exact .str s'
   | _=>cases he
 | gq=>intro z h;cases h;exact .gq
 | ptr o h=>intro z h';cases h' with | ptr _ h'=>rw[hle _ _ h] at h';cases h';exact .ptr o h
 | aI=>intro z h;cases h;exact .aI
 | slice o len cap op h=>intro z h';cases h' with | slice _ _ _ _ h'=>rw[hle _ _ h] at h';cases h';exact .slice o len cap op h
 | eS a cap=>intro z h;cases h;exact .eS _ _
 | ea=>intro z h;cases h;exact .ea
 | map h=>intro z h';cases h' with | map h'=>rw[hle _ _ h] at h';cases h';exact .map h
 | func f a b a' b' la lb ha hb UR US=>
   intro z h
   obtain ⟨c,d,rfl,hc,hd⟩:=VR.xm h
   have h1:LR φ a c.toList:=LR.tX (ys:=a'.toList) ⟨by simpa using la,fun i x y p q=>ha i x y p (by simpa using q)⟩ hc fun i x y z p q r=>UR i x y p (by simpa using q) (hc.2 i x z p r)
   have h2:LR φ b d.toList:=LR.tX (ys:=b'.toList) ⟨by simpa using lb,fun i x y p q=>hb i x y p (by simpa using q)⟩ hd fun i x y z p q r=>US i x y p (by simpa using q) (hd.2 i x z p r)
   have:=VR.IY f h1 h2
   simpa using this
 | nilFunc=>intro z h;cases h;exact .nilFunc
 | yield h=>intro z h';cases h' with | yield h'=>rw[hle _ _ h] at h';cases h';exact .yield h
 | iface t v v' h ih=>intro z h';cases h' with | iface _ _ _ h'=>exact .iface t v _ (ih h')
 | nilIface=>intro z h;cases h;exact .nilIface
 | agg cs iD hl h ih=>
   intro z h'
   obtain ⟨d,rfl,hd⟩:=VR.jz h'
   have h1:LR φ cs d.toList:=LR.tX (ys:=iD.toList) ⟨by simpa using hl,fun i x y p q=>h i x y p (by simpa using q)⟩ hd fun i x y z p q r=>ih i x y p (by simpa using q) (hd.2 i x z p r)
   have:=VR.Hy h1
   simpa using this
 | any v h=>intro z h';cases h' with | any _ h'=>exact .any _ h'
 | tuple cs iD hl h ih=>
   intro z h'
   obtain ⟨d,rfl,hd⟩:=VR.zV h'
   have h1:LR φ cs d.toList:=LR.tX (ys:=iD.toList) ⟨by simpa using hl,fun i x y p q=>h i x y p (by simpa using q)⟩ hd fun i x y z p q r=>ih i x y p (by simpa using q) (hd.2 i x z p r)
   have:=VR.tuple' h1
   simpa using this
theorem LR.back {φ φ':Ph} (hle:φ.le φ') {xs:List AV} {ys zs:List Value} (h:LR φ xs ys) (h':LR φ' xs zs):LR φ xs zs:=
 LR.tX h h' fun i x y z p q r=>(h.2 i x y p q).back hle (h'.2 i x z p r)
theorem OR.back {φ φ':Ph} (hle:φ.le φ') {o:aH} {l:Loc} {x z:Option Obj} (h:OR E φ o l x) (h':OR E φ' o l z):OR E φ o l z:=by
 cases o with
 | cells cs e ro=>
   obtain ⟨C,e1,lo,hi,_,hc⟩:=h
   obtain ⟨D,e2,Ez,AW,hz,hd⟩:=h'
   refine ⟨D,e2,Ez,AW,hz,hd.size,fun k x hk=>?_,hd.free,hd.zero⟩
   obtain ⟨y,_,hy⟩:=hc.val k x hk
   obtain ⟨y',h1,Mo⟩:=hd.val k x hk
   exact ⟨y',h1,hy.back hle Mo⟩
 | map es clock=>
   obtain ⟨_,YI,_,hl,hv⟩:=h
   obtain ⟨h0,YJ,hz,Ob,YK⟩:=h'
   refine ⟨h0,YJ,hz,Ob,fun i x y hx hy=>?_⟩
   have hi:i<es.length:=(List.getElem?_eq_some_iff.1 hx).1
   have:i<YI.toList.length:=by rw[←hl];exact hi
   have a:=hv i x _ hx (List.getElem?_eq_getElem this)
   have b:=YK i x y hx hy
   exact ⟨a.key.back hle b.key,a.val.back hle b.val,b.born⟩
 | r_ s pos=>exact h'
 | xg m since seen pe=>
   cases m with
   | none=>exact h'
   | some m=>
     obtain ⟨_,lm,hm,_⟩:=h
     obtain ⟨h0,ZH,P0,hz⟩:=h'
     rw[hle _ _ hm] at P0;cases P0
     exact ⟨h0,lm,hm,hz⟩
 | loop st pd ts ps as bd dn=>
   obtain ⟨_,r,_,hr⟩:=h
   obtain ⟨h0,r',hz,I9⟩:=h'
   obtain ⟨ld,hd,_⟩:=hr.defers
   obtain ⟨ZI,Oi,El⟩:=I9.defers
   rw[hle _ _ hd] at Oi;cases Oi
   exact ⟨h0,r',hz,I9.state,I9.pending,hr.tmps.back hle I9.tmps,I9.params,I9.assign,I9.body,⟨ld,hd,El⟩,I9.fn⟩
 | Hv=>exact h'
def Has (h h':ar):Prop:=∀i o,h.get i=some o→h'.get i=some o
theorem Has.refl (h:ar):Has h h:=fun _ _ e=>e
theorem Has.trans {a b c:ar} (x:Has a b) (y:Has b c):Has a c:=fun i o e=>y i o (x i o e)
theorem OK.forget {φ φ':Ph} {h h':ar} {w w':World} (ok:OK E φ h w) (hle:φ.le φ') (qq:OK E φ' h' w') (hs:Has h h'):OK E φ h w' where
 wB:=ok.wB
 nx:=ok.nx
 sx:=ok.sx
 live i o l a b:=(ok.live i o l a b).back hle (qq.live i o l (hs i o a) (hle _ _ b))
 inj:=ok.inj
theorem Fr.forget {φ φ':Ph} {h h':ar} {w w':World} (f:Fr φ h w φ' h' w'):Fr φ h w φ h w' where
 ext:=Ph.le_refl φ
 old _ _:=rfl
 nx:=Nat.le_refl _
 os:=f.os
 tape:=f.tape
 output:=f.output
 size:=f.size
 zt:=f.zt
 own i o l a b c:= .inr ⟨i,o,l,a,b,c,rfl⟩
def AV.plain:Nat→AV→Bool
 | 0,_=>false
 | n+1,x=>match x with
   | .bool _ | .int .. | .str _ | .gq | .aI | .ea | .nilFunc | .nilIface=>true
   | .iface _ v=>AV.plain n v
   | .agg cs=>cs.all (AV.plain n)
   | .tuple cs=>cs.all (AV.plain n)
   | _=>false
theorem VR.plain {φ φ':Ph}:∀(n:Nat) {x:AV} (_:AV.plain n x=true) {y:Value},VR φ' x y→VR φ x y
 | 0,_,h,_,_=>by cases h
 | n+1,x,h,y,hv=>by
   have ih:= @VR.plain φ φ' n
   cases hv with
   | bool b=>exact .bool b
   | int k m=>exact .int k m
   | str s=>exact .str s
   | gq=>exact .gq
   | aI=>exact .aI
   | ea=>exact .ea
   | nilFunc=>exact .nilFunc
   | nilIface=>exact .nilIface
   | iface t v v' h'=>exact .iface t v v' (ih (by simpa [AV.plain] using h) h')
   | agg cs iD hl hc=>
     refine .agg cs iD hl fun i x y a b=>ih ?_ (hc i x y a b)
     simp only[AV.plain,List.all_eq_true] at h
     exact h x (List.mem_of_getElem? a)
   | tuple cs iD hl hc=>
     refine .tuple cs iD hl fun i x y a b=>ih ?_ (hc i x y a b)
     simp only[AV.plain,List.all_eq_true] at h
     exact h x (List.mem_of_getElem? a)
   | _=>cases h
theorem kH.closed {f:FuncId} {args:List AV} {h':ar} {v:AV} (r:kH E f args (Fa.Dl E.G []) v h') (ha:args.all (AV.plain 20)=true) (hv:AV.plain 20 v=true) (h:ar):kH E f args h v h:=fun φ w vs ok hl=>by
 let φ0:Ph:=fun i=>if i<E.G then φ i else none
 have hle:φ0.le φ:=fun i l e=>by
  simp only[φ0] at e
  split at e
  · exact e
  · cases e
 have Kq:∀{i o},(Fa.Dl E.G []).get i=some o→False:=fun e=>by cases Fa.An e
 have YL:OK E φ0 (Fa.Dl E.G []) w:=by
  refine ⟨fun i l e=>?_,Nat.le_refl _,fun g hg=>?_,fun i o l e=>(Kq e).elim,fun i j o p l m e=>(Kq e).elim⟩
  · simp only[φ0] at e
    split at e
    · assumption
    · cases e
  · simp only[φ0,hg,if_true];exact ok.sx g hg
 have Pb:LR φ0 args vs:=⟨hl.1,fun i x y a b=>(hl.2 i x y a b).plain 20 (List.all_eq_true.1 ha x (List.mem_of_getElem? a))⟩
 obtain ⟨h1,h2⟩:=r φ0 w vs YL Pb
 refine ⟨h1,fun cs=>?_⟩
 obtain ⟨φ',w',v',fr,x1,x2,x3,x4⟩:=h2 cs
 have OD:∀b,b<w.heap.size→w'.heap[b]? =w.heap[b]? :=fun b hb=>x3.zt b hb fun i o l e=>(Kq e).elim
 refine ⟨φ,w',v',fr,x1.plain 20 hv,⟨ok.wB,ok.nx,ok.sx,fun i o l a b=>?_,ok.inj⟩,⟨Ph.le_refl φ,fun _ _=>rfl,Nat.le_refl _,x3.os,x3.tape,x3.output,x3.size,fun b hb _=>OD b hb,fun i o l a b c=> .inr ⟨i,o,l,a,b,c,rfl⟩⟩,x4⟩
 have hr:=ok.live i o l a b
 by_cases hb:l.gG<w.heap.size
 · rw[OD _ hb];exact hr
 · rw[Array.getElem?_eq_none (by omega)] at hr
   exact hr.absurd.elim
end Go.Ab
end
