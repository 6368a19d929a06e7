import Derived.Laws.Externs
import Derived.Lib.Bytealg
import Derived.Maps.Own
import Derived.Maps.Range
import Derived.Sort.KeysCollected
import GoSem.ClaimChange
import Derived.OpenShut
import Derived.FnData
import Derived.ChangeArms
import Derived.Test.YtfllahfbmaafcaaA5
import Derived.Test.YtfllahfbmaafcaaA3
import Derived.Test.YtfllahfbmaafcaaA1
import Derived.Test.YtfllahfbmaafcaaA4
set_option linter.unusedVariables false
set_option linter.unusedSimpArgs false
section
namespace Go.Ab.Fa
variable {E:Env} {F:RF} {n:Nat}
theorem gW {ts:List AV} {x:Operand} {a:AV} (h:du E ts x=some a):eQ E ts [x]=some [a]:=by simp [eQ,dC,h]
theorem BA {ts:List AV} {x y:Operand} {a b:AV} (h:du E ts x=some a) (h':du E ts y=some b):eQ E ts [x,y]=some [a,b]:=by simp [eQ,dC,h,h']
theorem S5 (v:AV):ZX v=jD v:=by
 cases v with
 | str s=>show some (gS s)=some s.length;rw[eL]
 | _=>rfl
theorem KW {h:au} {size m:Nat} {v:AV} {l:List AV} (e:N6 h size m v=some l):dP h size m v=some l:=by
 cases v with
 | aI=>
   obtain ⟨h1,e1⟩:=eC (show bc (Nat.beq m 0) (some []) none=some l from e)
   simp only[dP];rw[if_pos (km h1)];exact e1
 | slice i o len c b=>
   obtain ⟨h1,e1⟩:=eC (show bc (Nat.ble m len) (ob none (fun obj=>vH (fun cs _ _=>bc (Nat.ble (o+m*size) (gS cs)) (some (qp (qo cs o) (m*size))) none) none obj) (h.get i)) none=some l from e)
   obtain ⟨obj,h2,e2⟩:=fD e1
   obtain ⟨cs,el,ro,rfl,e3⟩:=oZ e2
   obtain ⟨h3,e4⟩:=eC e3
   have h1:=eD h1
   have h3:=eD h3
   rw[eL] at h3
   rw[oe,od] at e4
   simp only[dP,h2]
   rw[if_pos h1]
   by_cases h0:m=0
   · subst h0
     rw[if_pos rfl]
     rw[Nat.zero_mul,List.take_zero] at e4
     exact e4
   · rw[if_neg h0,if_pos h3];exact e4
 | _=>exact e
theorem Ox {h:au} {obj:aR} {f:au→AV×au} {p:AV×au} (e:ob none (fun h'=>some (f h')) (h.new obj)=some p):∃h',h.new obj=some h'∧p=f h':=by
 obtain ⟨h',h1,e1⟩:=fD e
 exact ⟨h',h1,(Option.some.inj e1).symm⟩
theorem S6 {argTypes:Array TypeId} {sT xT elem:TypeId} {xd:TypeDesc} {size bytes:Nat} {z:AV} (h1:argTypes[0]? =some sT) (h2:argTypes[1]? =some xT) (h3:E.P.underlying sT=some (.slice elem)) (h4:E.P.underlying xT=some xd)
 (h5:jk xd=false) (h6:bT E elem=some size) (h7:eK E elem=some bytes) (h8:eh E elem=some z) (h9:z.cells.length=size)
 {h:au} {s x:AV} {p:AV×au} (e:ZY elem size bytes h s x=some p):bf E h argTypes s x=some p:=by
 obtain ⟨m,a1,e1⟩:=fD e
 rw[S5] at a1
 obtain ⟨new,a2,e2⟩:=fD e1
 have a2:=KW a2
 obtain ⟨a3,e3⟩:=eC e2
 obtain ⟨a4,e4⟩:=eC e3
 rw[oV,E5] at a3
 have a4:=km a4
 rw[eL] at a4
 unfold bf
 simp only[h1,h2,h3,h4,h5,h6,h7,h8,a1,a2]
 rw[if_neg (by simp)]
 rw[if_pos ⟨h9,a3,a4⟩]
 rcases mn e4 with ⟨rfl,e5⟩ | ⟨i,o,len,cap,op,rfl,e5⟩
 · cases hm:Nat.beq m 0 with
   | true=>
     rw[hm,hI] at e5
     simp only;rw[if_pos (km hm)];exact e5
   | false=>
     rw[hm,dj] at e5
     obtain ⟨a5,e6⟩:=eC e5
     have a5:(4*m+4096)*(bytes+1)≤1099511627776:=eD a5
     obtain ⟨h',a6,rfl⟩:=Ox e6
     simp only
     rw[if_neg (by intro ee;rw[ee] at hm;cases hm),if_pos a5]
     simp only[a6]
 · obtain ⟨obj,a5,e6⟩:=fD e5
   obtain ⟨cs,el,ro,rfl,e7⟩:=oZ e6
   obtain ⟨a6,e8⟩:=oY e7
   subst a6
   simp only[a5]
   cases hc:Nat.ble (Nat.add len m) cap with
   | true=>
     rw[hc,hI] at e8
     have hc:len+m≤cap:=eD hc
     obtain ⟨a7,e9⟩:=eC e8
     have a7:o+(len+m)*size≤gS cs:=eD a7
     rw[eL] at a7
     rw[if_pos hc,if_pos a7,←Option.some.inj e9,C7];rfl
   | false=>
     rw[hc,dj] at e8
     have hc:cap<len+m:=iR hc
     obtain ⟨a7,e9⟩:=eC e8
     have a7:(4*(len+m)+4096)*(bytes+1)≤1099511627776:=eD a7
     obtain ⟨a8,e10⟩:=eC e9
     have a8:o+len*size≤gS cs:=eD a8
     rw[eL] at a8
     rw[if_neg (by omega)]
     cases op with
     | true=>
       rw[hI] at e10
       obtain ⟨a9,e11⟩:=eC e10
       obtain ⟨U',e12⟩:=eC e11
       obtain ⟨a0,e12⟩:=eC e12
       have a0:o=0:=km a0
       have a9:=km a9
       have U':o+cap*size=gS cs:=km U'
       rw[eL] at U'
       obtain ⟨h',Z5,rfl⟩:=Ox e12
       rw[lK,oe,od] at Z5
       rw[if_pos ⟨a7,a8,fun _=>⟨a9,U',a0⟩⟩]
       rw[if_pos rfl]
       have WL:(h.put i none).new (.cells ((cs.drop o).take (len*size)++new) elem false)=some h':=Z5
       simp only[WL];rfl
     | false=>
       rw[dj] at e10
       obtain ⟨h',Z5,rfl⟩:=Ox e10
       rw[lK,oe,od] at Z5
       rw[if_pos ⟨a7,a8,fun hh=>by cases hh⟩]
       rw[if_neg (by simp)]
       have WL:h.new (.cells ((cs.drop o).take (len*size)++new) elem false)=some h':=Z5
       simp only[WL];rfl
theorem jN {b:Builtin} (h1:b≠ .len) (h2:b≠ .cap) (h3:b≠ .max) (h4:b≠ .min) (a:Array Operand) (t:Array TypeId):qw E (.call ⟨.builtin b,a,t⟩):=by
 cases b<;>first | exact absurd rfl h1 | exact absurd rfl h2 | exact absurd rfl h3 | exact absurd rfl h4 | exact ⟨fun _=>rfl,fun _ _=>rfl,fun _=>rfl⟩
theorem KX (a:Array Operand) (t:Array TypeId):eS E F n (.call ⟨.builtin .append,a,t⟩) (match a.toList with
 | [s,x]=>wO E F n s (fun gs=>wO E F n x (fun gx=>KO E t gs gx) .bad) .bad
 | _=> .bad):=by
 have nn:qw E (.call ⟨.builtin .append,a,t⟩):=jN (by simp) (by simp) (by simp) (by simp) a t
 generalize hl:a.toList=l
 match l with
 | []=>trivial
 | [_]=>trivial
 | _::_::_::_=>trivial
 | [s,x]=>
   simp only
   rcases bM E F n s (fun gs=>wO E F n x (fun gx=>KO E t gs gx) .bad) (.bad:Kd F.T) with h | ⟨gs,h,hs⟩<;>rw[h]
   · trivial
   rcases bM E F n x (fun gx=>KO E t gs gx) (.bad:Kd F.T) with h | ⟨gx,h,hx⟩<;>rw[h]
   · trivial
   unfold KO
   simp only[fK,Array.getElem?_toList,gK,mr,Of,vO]
   have fin:∀(f:F.T→au→Option (AV×au)),(∀r h p,f r h=some p→bf E h t (gs r) (gx r)=some p)→eS E F n (.call ⟨.builtin .append,a,t⟩) (.wr f):=by
    intro f hf
    refine ⟨nn,fun call r h rc o p ho e=>?_⟩
    simp only[cI,ho,hl,BA (hs r) (hx r),hf r h p e]
   cases h1:t[0]? with
   | none=>trivial
   | some sT=>cases h2:t[1]? with
     | none=>trivial
     | some xT=>
       simp only
       cases h3:E.P.underlying sT with
       | none=>trivial
       | some sd=>cases h4:E.P.underlying xT with
         | none=>cases sd<;>trivial
         | some xd=>cases sd with
           | slice elem=>
             simp only
             cases h5:jk xd with
             | true=>
               rw[if_pos rfl]
               apply fin
               intro r h p e
               unfold bf
               simp only[h1,h2,h3,h4,h5]
               rw[if_pos trivial];exact e
             | false=>
               rw[if_neg (by simp)]
               cases h6:bT E elem with
               | none=>trivial
               | some size=>cases h7:eK E elem with
                 | none=>trivial
                 | some bytes=>cases h8:eh E elem with
                   | none=>trivial
                   | some z=>
                     simp only
                     by_cases h9:z.cells.length=size
                     · rw[if_pos h9]
                       exact fin _ fun r h p e=>S6 h1 h2 h3 h4 h5 h6 h7 h8 h9 e
                     · rw[if_neg h9];trivial
           | _=>trivial
theorem Jr (a:Array Operand) (t:Array TypeId):eS E F n (.call ⟨.builtin .copy,a,t⟩) (match a.toList with
 | [s,x]=>wO E F n s (fun gs=>wO E F n x (fun gx=> .wr fun r h=>so E h t (gs r) (gx r)) .bad) .bad
 | _=> .bad):=by
 have nn:qw E (.call ⟨.builtin .copy,a,t⟩):=jN (by simp) (by simp) (by simp) (by simp) a t
 generalize hl:a.toList=l
 match l with
 | []=>trivial
 | [_]=>trivial
 | _::_::_::_=>trivial
 | [s,x]=>
   simp only
   rcases bM E F n s (fun gs=>wO E F n x (fun gx=>(.wr fun r h=>so E h t (gs r) (gx r):Kd F.T)) .bad) (.bad:Kd F.T) with h | ⟨gs,h,hs⟩<;>rw[h]
   · trivial
   rcases bM E F n x (fun gx=>(.wr fun r h=>so E h t (gs r) (gx r):Kd F.T)) (.bad:Kd F.T) with h | ⟨gx,h,hx⟩<;>rw[h]
   · trivial
   refine ⟨nn,fun call r h rc o p ho e=>?_⟩
   simp only[cI,ho,hl,BA (hs r) (hx r),e]
theorem Hy (a:Array Operand) (t:Array TypeId):eS E F n (.call ⟨.builtin .recover,a,t⟩) (.rW fun _ _ h rc=>match rc with
 | .fS x=> .pD x
 | .pT _=> .fail "" none
 | _=> .val .nilIface h):=by
 refine ⟨jN (by simp) (by simp) (by simp) (by simp) a t,fun fc call _ r h rc o ho=>?_⟩
 simp only[cI,ho]
 cases rc<;>first | trivial | rfl
theorem WM (a:Array Operand) (t:Array TypeId):eS E F n (.call ⟨.builtin .len,a,t⟩) (match gT t.toList 0,a.toList with
 | some t,[x]=>wO E F n x (fun g=>match iC E.P t with
   | some .string=> .fF fun r=>oS (fun s=>some (.int .i64 (Int.ofNat (gS s)))) none (g r)
   | some (.array m _)=> .fF fun _=>some (.int .i64 (Int.ofNat m))
   | some (.slice _)=> .fF fun r=>hZ (some (.int .i64 (Int.ofNat 0))) (fun _ _ m _ _=>some (.int .i64 (Int.ofNat m))) (vZ (some (.int .i64 (Int.ofNat 0))) none (g r)) (g r)
   | some (.map _ _)=> .red fun r h=>I' h (g r)
   | _=> .bad) .bad
 | _,_=> .bad):=by
 rw[fK,Array.getElem?_toList]
 cases ht:t[0]? with
 | none=>trivial
 | some tt=>
   generalize hl:a.toList=l
   match l with
   | []=>trivial
   | _::_::_=>trivial
   | [x]=>
     simp only[gK]
     rcases bM E F n x (fun g=>match E.P.underlying tt with
      | some .string=>(.fF fun r=>oS (fun s=>some (.int .i64 (Int.ofNat (gS s)))) none (g r):Kd F.T)
      | some (.array m _)=> .fF fun _=>some (.int .i64 (Int.ofNat m))
      | some (.slice _)=> .fF fun r=>hZ (some (.int .i64 (Int.ofNat 0))) (fun _ _ m _ _=>some (.int .i64 (Int.ofNat m))) (vZ (some (.int .i64 (Int.ofNat 0))) none (g r)) (g r)
      | some (.map _ _)=> .red fun r h=>I' h (g r)
      | _=> .bad) .bad with h | ⟨g,h,hg⟩<;>rw[h]
     · trivial
     cases hu:E.P.underlying tt with
     | none=>trivial
     | some d=>cases d with
       | string=>
         intro r v e
         obtain ⟨s,e1,e2⟩:=ml e
         simp only[bk,ht,hl,gW (hg r),hu,e1]
         rw[←e2,eL];rfl
       | array m el=>
         intro r v e
         simp only[bk,ht,hl,gW (hg r),hu]
         exact e
       | slice el=>
         intro r v e
         rcases E4 e with ⟨e1,e2⟩ | ⟨i,o,l,c,b,e1,e2⟩ | ⟨e1,e2⟩
         · simp only[bk,ht,hl,gW (hg r),hu,e1];exact e2
         · simp only[bk,ht,hl,gW (hg r),hu,e1];exact e2
         · simp only[bk,ht,hl,gW (hg r),hu,e1];exact e2
       | map key el=>
         intro r h v e
         have e:I' h (g r)=some v:=e
         generalize hm:g r=m at e
         cases m with
         | dc=>exact .inl (by simp only[bk,ht,hl,gW (hg r),hu,hm];exact e)
         | map i=>
           refine .inr ⟨by simp only[bk,ht,hl,gW (hg r),hu,hm],?_⟩
           obtain ⟨o,h3,h4⟩:=fD (show ob none (fun o=>SH (fun es=>some (AV.int .i64 (Int.ofNat (gS es)))) none o) (h.get i)=some v from e)
           cases o with
           | map es c=>
             have h4:some (AV.int .i64 (Int.ofNat (gS es)))=some v:=h4
             simp only[dh,ht,hl,gW (hg r),hu,hm,h3]
             rw[←h4,eL];rfl
           | _=>cases h4
         | _=>cases e
       | _=>trivial
theorem WN (a:Array Operand) (t:Array TypeId):eS E F n (.call ⟨.builtin .cap,a,t⟩) (match gT t.toList 0,a.toList with
 | some t,[x]=>wO E F n x (fun g=>match iC E.P t with
   | some (.slice _)=> .fF fun r=>hZ (some (.int .i64 (Int.ofNat 0))) (fun _ _ _ c b=>bc b none (some (.int .i64 (Int.ofNat c)))) none (g r)
   | _=> .bad) .bad
 | _,_=> .bad):=by
 rw[fK,Array.getElem?_toList]
 cases ht:t[0]? with
 | none=>trivial
 | some tt=>
   generalize hl:a.toList=l
   match l with
   | []=>trivial
   | _::_::_=>trivial
   | [x]=>
     simp only[gK]
     rcases bM E F n x (fun g=>match E.P.underlying tt with
      | some (.slice _)=>(.fF fun r=>hZ (some (.int .i64 (Int.ofNat 0))) (fun _ _ _ c b=>bc b none (some (.int .i64 (Int.ofNat c)))) none (g r):Kd F.T)
      | _=> .bad) .bad with h | ⟨g,h,hg⟩<;>rw[h]
     · trivial
     cases hu:E.P.underlying tt with
     | none=>trivial
     | some d=>cases d with
       | slice el=>
         intro r v e
         rcases mn e with ⟨e1,e2⟩ | ⟨i,o,l,c,b,e1,e2⟩
         · simp only[bk,ht,hl,gW (hg r),hu,e1];exact e2
         · obtain ⟨rfl,e3⟩:=oY e2
           simp only[bk,ht,hl,gW (hg r),hu,e1];exact e3
       | _=>trivial
theorem KY (f:FuncId) (a:Array Operand) (t:Array TypeId):eS E F n (.call ⟨.value (.func f),a,t⟩) (wL E F n a.toList (fun gs=>match E.kB f with
 | some e=> .fF fun r=>e (gs r)
 | none=>match E.gF f with
   | some g=> .wr fun r h=>g (gs r) h
   | none=> .call (.fn f) gs) .bad):=by
 rcases rJ E F n a.toList (fun gs=>match E.kB f with
  | some e=>(.fF fun r=>e (gs r):Kd F.T)
  | none=>match E.gF f with
    | some g=> .wr fun r h=>g (gs r) h
    | none=> .call (.fn f) gs) .bad with h | ⟨gs,h,hg⟩<;>rw[h]
 · trivial
 cases hp:E.kB f with
 | some e=>
   intro r v h
   simp only[bk,hp,hg];exact h
 | none=>
   have nn:qw E (.call ⟨.value (.func f),a,t⟩):=⟨fun _=>by simp only[bk,hp],fun _ _=>rfl,fun _=>rfl⟩
   have hc:∀r,callee E (dS F n r) ⟨.value (.func f),a,t⟩=some (.fn f,gs r):=by
    intro r
    simp only[callee,hg,du]
    simp
   cases hs:E.gF f with
   | some g=>
     refine ⟨nn,fun call r h rc o p ho e=>?_⟩
     have e':g (gs r) h=some p:=e
     simp only[cI,ho,hc,iv,hs,e']
   | none=>
     refine ⟨nn,fun call r h rc o ho=>?_⟩
     simp only[cI,ho,hc,iv,hs]
     cases call (.fn f) (gs r) h<;>rfl
theorem zd {a b:gY} (h1:∀v h',a= .ret v h'→b= .ret v h') (h2:∀v h',a= .panic v h'→b= .panic v h'):U_ (kO a) (kO b):=by
 cases a with
 | ret v h=>rw[h1 v h rfl];rfl
 | panic v h=>rw[h2 v h rfl];rfl
 | fail _ _=>trivial
theorem tb (x:Operand) (hx:∀f,x≠ .func f) (a:Array Operand) (t:Array TypeId):eS E F n (.call ⟨.value x,a,t⟩) (wO E F n x (fun gf=>wL E F n a.toList (fun gs=> .rW fun call r h _=>I8
 (fun g first captured=>ob (kO (call (.fn g) (jF first (jF (gs r) captured)) h)) (fun sp=>ob (.fail "" none) (fun p=> .val p.1 p.2) (sp (jF first (jF (gs r) captured)) h)) (E.gF g))
 (fun l=>kO (call (.sL l) (gs r) h)) (.fail "" none) (gf r)) .bad) .bad):=by
 have nn:qw E (.call ⟨.value x,a,t⟩):=by
  cases x with
  | func f=>exact absurd rfl (hx f)
  | _=>exact ⟨fun _=>rfl,fun _ _=>rfl,fun _=>rfl⟩
 let K:(F.T→AV)→(F.T→List AV)→Kd F.T:=fun gf gs=> .rW fun call r h _=>I8
  (fun g first captured=>ob (kO (call (.fn g) (jF first (jF (gs r) captured)) h)) (fun sp=>ob (.fail "" none) (fun p=> .val p.1 p.2) (sp (jF first (jF (gs r) captured)) h)) (E.gF g))
  (fun l=>kO (call (.sL l) (gs r) h)) (.fail "" none) (gf r)
 show eS E F n _ (wO E F n x (fun gf=>wL E F n a.toList (fun gs=>K gf gs) .bad) .bad)
 rcases bM E F n x (fun gf=>wL E F n a.toList (fun gs=>K gf gs) .bad) .bad with h | ⟨gf,h,hf⟩<;>rw[h]
 · trivial
 rcases rJ E F n a.toList (fun gs=>K gf gs) .bad with h | ⟨gs,h,hg⟩<;>rw[h]
 · trivial
 refine ⟨nn,fun fc call hle r h rc o ho=>?_⟩
 have ec:∀R,callee E (dS F n r) ⟨.value x,a,t⟩=R→cI E call (dS F n r) h rc o=(match R with
  | some (f,args)=>match iv E f with
    | some g=>(match g args h with | some (x,h')=> .val x h' | none=> .fail "eff" (some o))
    | none=>kO (call f args h)
  | none=> .fail "callee" (some o)):=by
  intro R hR
  simp only[cI,ho,hR]
  cases R with
  | none=>rfl
  | some p=>
    obtain ⟨f,args⟩:=p
    simp only
    cases iv E f with
    | none=>simp only;cases call f args h<;>rfl
    | some g=>rfl
 show U_ (I8 _ _ _ (gf r)) _
 cases hv:gf r with
 | func g first captured=>
   have hc:callee E (dS F n r) ⟨.value x,a,t⟩=some (.fn g,first++gs r++captured):=by
    simp only[callee,hf,hg,hv]
   rw[ec _ hc]
   have ha:jF first (jF (gs r) captured)=first++gs r++captured:=by rw[lK,lK,List.append_assoc]
   show U_ (ob (kO (fc (.fn g) (jF first (jF (gs r) captured)) h)) (fun sp=>ob (.fail "" none) (fun p=> .val p.1 p.2) (sp (jF first (jF (gs r) captured)) h)) (E.gF g)) _
   rw[ha]
   simp only[iv]
   cases hs:E.gF g with
   | none=>exact zd (hle _ _ _).1 (hle _ _ _).2
   | some sp=>
     show U_ (ob (.fail "" none) (fun p=> .val p.1 p.2) (sp (first++gs r++captured) h)) _
     simp only
     cases sp (first++gs r++captured) h with
     | none=>trivial
     | some p=>rfl
 | cr l=>
   have hc:callee E (dS F n r) ⟨.value x,a,t⟩=some (.sL l,gs r):=by
    simp only[callee,hf,hg,hv]
   rw[ec _ hc]
   simp only[iv]
   exact zd (hle _ _ _).1 (hle _ _ _).2
 | _=>trivial
theorem KZ (x:Operand) (name:String) (a:Array Operand) (t:Array TypeId):eS E F n (.call ⟨.invoke x name,a,t⟩) (wO E F n x (fun gx=>wL E F n a.toList (fun gs=> .rW fun call r h _=>oT
 (fun t v=>ob (.fail "" none) (fun f=>kO (call (.fn f) (v::gs r) h)) (E1 E t name)) (.fail "" none) (gx r)) .bad) .bad):=by
 have nn:qw E (.call ⟨.invoke x name,a,t⟩):=⟨fun _=>rfl,fun _ _=>rfl,fun _=>rfl⟩
 let K:(F.T→AV)→(F.T→List AV)→Kd F.T:=fun gx gs=> .rW fun call r h _=>oT
  (fun t v=>ob (.fail "" none) (fun f=>kO (call (.fn f) (v::gs r) h)) (E1 E t name)) (.fail "" none) (gx r)
 show eS E F n _ (wO E F n x (fun gx=>wL E F n a.toList (fun gs=>K gx gs) .bad) .bad)
 rcases bM E F n x (fun gx=>wL E F n a.toList (fun gs=>K gx gs) .bad) .bad with h | ⟨gx,h,hx⟩<;>rw[h]
 · trivial
 rcases rJ E F n a.toList (fun gs=>K gx gs) .bad with h | ⟨gs,h,hg⟩<;>rw[h]
 · trivial
 refine ⟨nn,fun fc call hle r h rc o ho=>?_⟩
 show U_ (oT _ _ (gx r)) _
 cases hv:gx r with
 | iface u v=>
   show U_ (ob (.fail "" none) (fun f=>kO (fc (.fn f) (v::gs r) h)) (E1 E u name)) _
   cases hm:E1 E u name with
   | none=>trivial
   | some f=>
     have WO:tK E u name=some f:=hm
     have ec:cI E call (dS F n r) h rc o=kO (call (.fn f) (v::gs r) h):=by
      simp only[cI,ho,hx,hg,hv,WO]
      cases call (.fn f) (v::gs r) h<;>rfl
     rw[ec]
     exact zd (hle _ _ _).1 (hle _ _ _).2
 | _=>trivial
theorem Oy (c:Call):eS E F n (.call c) (U7 E F n c (.call c)):=by
 obtain ⟨dw,a,t⟩:=c
 cases dw with
 | value x=>cases x with
   | func f=>exact KY f a t
   | tmp x=>exact tb (.tmp x) (by simp) a t
   | const x=>exact tb (.const x) (by simp) a t
   | global x=>exact tb (.global x) (by simp) a t
 | invoke r m=>exact KZ r m a t
 | builtin b=>cases b with
   | append=>exact KX a t
   | copy=>exact Jr a t
   | recover=>exact Hy a t
   | len=>exact WM a t
   | cap=>exact WN a t
   | max=>exact fun r v e=>e
   | min=>exact fun r v e=>e
   | _=>trivial
theorem Ff (op:Op):eS E F n op (sw E F n op):=by
 cases op with
 | move x=>
   show eS E F n _ (wO E F n x .D2 .bad)
   rcases bM E F n x .D2 (.bad:Kd F.T) with h | ⟨g,h,hg⟩<;>rw[h]
   · trivial
   · exact hg
 | assign x=>
   show eS E F n _ (wO E F n x .D2 .bad)
   rcases bM E F n x .D2 (.bad:Kd F.T) with h | ⟨g,h,hg⟩<;>rw[h]
   · trivial
   · exact hg
 | pick c a b=>exact S2 c a b
 | binOp op t x y yt=>
   show eS E F n _ (wO E F n x (fun gx=>wO E F n y (fun gy=>bU op (iJ E op t (isConst x) (isConst y)) gx gy) .bad) .bad)
   rcases bM E F n x (fun gx=>wO E F n y (fun gy=>bU op (iJ E op t (isConst x) (isConst y)) gx gy) .bad) (.bad:Kd F.T) with h | ⟨gx,h,hx⟩<;>rw[h]
   · trivial
   rcases bM E F n y (fun gy=>bU op (iJ E op t (isConst x) (isConst y)) gx gy) (.bad:Kd F.T) with h | ⟨gy,h,hy⟩<;>rw[h]
   · trivial
   exact S0 op t x y yt gx gy hx hy
 | unOp op t x=>
   show eS E F n _ (wO E F n x (ZW op) .bad)
   rcases bM E F n x (ZW op) (.bad:Kd F.T) with h | ⟨g,h,hg⟩<;>rw[h]
   · trivial
   exact WG op t x g hg
 | fieldAddr s x f=>exact C9 s x f
 | load t a=>exact S1 t a
 | store t a x=>exact Oo t a x
 | nilCheck x=>exact E7 x
 | extract x i=>exact Hw x i
 | field s x f=>exact Ol s x f
 | indexAddr t x ix=>exact C_ t x ix
 | index t x ix=>exact Om t x ix
 | slice t x lo hi mx=>cases mx with
   | none=>exact On t x lo hi
   | some m=>exact fun r v e=>e
 | convert s d x=>exact Hx s d x
 | makeInterface t x=>exact vP t x
 | makeFunc f a b=>cases f with
   | func f=>exact E9 f a b
   | _=>trivial
 | alloc t=>exact Oq t
 | box t x=>exact WK t x
 | buildSlice t len parts=>exact AW t len parts
 | makeSlice t l c=>exact Da t l c
 | makeMap t r=>cases r with
   | none=>exact ⟨fun _=>rfl,fun _ _=>rfl,fun r p e=>e⟩
   | some x=>exact ⟨fun _=>rfl,fun _ _=>rfl,fun r p e=>e⟩
 | range t x=>exact ⟨fun _=>rfl,fun _ _=>rfl,fun r p e=>e⟩
 | lookup t x ix ok=>exact KU t x ix ok
 | build t parts=>exact Ou t parts
 | typeAssert x a b ok=>exact fun r v e=>e
 | mapUpdate t m k x=>exact Db t m k x
 | insert t m k x=>exact KV t m k x
 | next it s=>exact S4 it s
 | panic x=>exact Ov x
 | defer c=>exact Ow c
 | call c=>exact Oy c
 | _=>trivial
end Go.Ab.Fa
end
section
namespace Go.Ab.Fa
variable {E:Env} {F:RF} {n:Nat}
def pO (_E:Env) (F:RF) (n:Nat) (o:FO F.T) (out:Out):Prop:=match o with
 | .EY r h y=>out= .ok .normal ⟨dS F n r,h,y.ds,y.rc⟩
 | .jmp e r h y=>e≠ .normal∧out= .ok e ⟨dS F n r,h,y.ds,y.rc⟩
 | .bad=>True
theorem Dc {call:aW} {s:St} {o:Oper} {v:AV} (h:bk E s.ts o.op=some v):Ck E call s o= .ok .normal {s with ts:=c_ s.ts o.dst v}:=by
 simp only[Ck,h]
theorem S7 {call:aW} {s:St} {o:Oper} {v:AV} (h0:bk E s.ts o.op=none) (h:dh E s.ts s.h o.op=some v):Ck E call s o= .ok .normal {s with ts:=c_ s.ts o.dst v}:=by
 simp only[Ck,h0,h]
theorem Dd {call:aW} {s:St} {o:Oper} (nn:qw E o.op):Ck E call s o=(match cI E call s.ts s.h s.rc o with
 | .val v h'=> .ok .normal {s with ts:=c_ s.ts o.dst v,h:=h'}
 | .defer d=> .ok .normal {s with ts:=c_ s.ts o.dst AV.undef,ds:=d::s.ds}
 | .pD v=> .ok .normal {s with ts:=c_ s.ts o.dst v,rc:= .done}
 | .panic v h'=> .ok (.panic v) {s with h:=h'}
 | .fail why q=> .fail why q):=by
 simp only[Ck,nn.1,nn.2.1,nn.2.2]
 generalize cI E call s.ts s.h s.rc o=x
 cases x<;>rfl
noncomputable def Z6 (E:Env) (call:aW) (ops:Array Oper) (rest:List Oper) (out:Out):Out:=match out with
 | .ok .normal s'=>iL E call ops rest s'
 | r=>r
theorem S8 {ops:Array Oper} {o:Oper} {rest:List Oper} {kd:Kd F.T} {s:AV→F.T→F.T} {j:I F.T} {fc call:aW} (hle:iS fc call) (hk:eS E F n o.op kd)
 (hs:∀v r,c_ (dS F n r) o.dst v=dS F n (s v r)) (hj:∀r h y,pO E F n (j.run fc r h y) (iL E call ops rest ⟨dS F n r,h,y.ds,y.rc⟩)) (r:F.T) (h:au) (y:Y):
 pO E F n ((Hr kd s j).run fc r h y) (Z6 E call ops rest (Ck E call ⟨dS F n r,h,y.ds,y.rc⟩ o)):=by
 cases kd with
 | D2 g=>
   rw[Dc (s:=⟨dS F n r,h,y.ds,y.rc⟩) (hk r)]
   show pO E F n (j.run fc (s (g r) r) h y) (iL E call ops rest ⟨c_ (dS F n r) o.dst (g r),h,y.ds,y.rc⟩)
   rw[hs];exact hj _ _ _
 | fF f=>
   show pO E F n (ob .bad (fun v=>j.run fc (s v r) h y) (f r)) _
   cases hf:f r with
   | none=>trivial
   | some v=>
     rw[Dc (s:=⟨dS F n r,h,y.ds,y.rc⟩) (hk r v hf)]
     show pO E F n (j.run fc (s v r) h y) (iL E call ops rest ⟨c_ (dS F n r) o.dst v,h,y.ds,y.rc⟩)
     rw[hs];exact hj _ _ _
 | red f=>
   show pO E F n (ob .bad (fun v=>j.run fc (s v r) h y) (f r h)) _
   cases hf:f r h with
   | none=>trivial
   | some v=>
     rcases hk r h v hf with h0 | ⟨h0,h1⟩
     · rw[Dc (s:=⟨dS F n r,h,y.ds,y.rc⟩) h0]
       show pO E F n (j.run fc (s v r) h y) (iL E call ops rest ⟨c_ (dS F n r) o.dst v,h,y.ds,y.rc⟩)
       rw[hs];exact hj _ _ _
     rw[S7 (s:=⟨dS F n r,h,y.ds,y.rc⟩) h0 h1]
     show pO E F n (j.run fc (s v r) h y) (iL E call ops rest ⟨c_ (dS F n r) o.dst v,h,y.ds,y.rc⟩)
     rw[hs];exact hj _ _ _
 | p_ f=>
   obtain ⟨h0,h1,h2⟩:=hk
   show pO E F n (ob .bad (fun p=>ob .bad (fun h'=>j.run fc (s (p.2 h.nx) r) h' y) (h.new p.1)) (f r)) _
   cases hf:f r with
   | none=>trivial
   | some p=>
     obtain ⟨obj,mk⟩:=p
     show pO E F n (ob .bad (fun h'=>j.run fc (s (mk h.nx) r) h' y) (h.new obj)) _
     cases hh:h.new obj with
     | none=>trivial
     | some h'=>
       have:Ck E call ⟨dS F n r,h,y.ds,y.rc⟩ o= .ok .normal ⟨c_ (dS F n r) o.dst (mk h.nx),h',y.ds,y.rc⟩:=by
        simp only[Ck,h0,h1,h2 r _ hf,hh]
       rw[this,hs];exact hj _ _ _
 | wr f=>
   obtain ⟨nn,h1⟩:=hk
   show pO E F n (ob .bad (fun p=>j.run fc (s p.1 r) p.2 y) (f r h)) _
   cases hf:f r h with
   | none=>trivial
   | some p=>
     rw[Dd nn,h1 call r h y.rc o p rfl hf]
     show pO E F n (j.run fc (s p.1 r) p.2 y) (iL E call ops rest ⟨c_ (dS F n r) o.dst p.1,p.2,y.ds,y.rc⟩)
     rw[hs];exact hj _ _ _
 | call g args=>
   obtain ⟨nn,h1⟩:=hk
   rw[Dd nn,h1 call r h y.rc o rfl]
   show pO E F n (gY.rec (motive:=fun _=>FO F.T) (fun v h'=>j.run fc (s v r) h' y) (fun v h'=> .jmp (.panic v) r h' y) (fun _ _=> .bad) (fc g (args r) h)) _
   cases hc:fc g (args r) h with
   | fail _ _=>trivial
   | ret v h'=>
     rw[(hle _ _ _).1 v h' hc]
     show pO E F n (j.run fc (s v r) h' y) (iL E call ops rest ⟨c_ (dS F n r) o.dst v,h',y.ds,y.rc⟩)
     rw[hs];exact hj _ _ _
   | panic v h'=>
     rw[(hle _ _ _).2 v h' hc]
     exact ⟨by simp,rfl⟩
 | rW f=>
   obtain ⟨nn,h1⟩:=hk
   rw[Dd nn]
   have h2:=h1 fc call hle r h y.rc o rfl
   show pO E F n (vr.rec (motive:=fun _=>FO F.T) (fun v h'=>j.run fc (s v r) h' y) (fun d=>j.run fc (s AV.undef r) h ⟨d::y.ds,y.rc⟩) (fun v=>j.run fc (s v r) h ⟨y.ds,.done⟩)
    (fun v h'=> .jmp (.panic v) r h' y) (fun _ _=> .bad) (f fc r h y.rc)) _
   cases he:f fc r h y.rc with
   | fail _ _=>trivial
   | val v h'=>
     rw[he] at h2
     have h2:cI E call (dS F n r) h y.rc o= .val v h':=h2
     rw[h2]
     show pO E F n (j.run fc (s v r) h' y) (iL E call ops rest ⟨c_ (dS F n r) o.dst v,h',y.ds,y.rc⟩)
     rw[hs];exact hj _ _ _
   | defer d=>
     rw[he] at h2
     have h2:cI E call (dS F n r) h y.rc o= .defer d:=h2
     rw[h2]
     show pO E F n (j.run fc (s AV.undef r) h ⟨d::y.ds,y.rc⟩) (iL E call ops rest ⟨c_ (dS F n r) o.dst AV.undef,h,d::y.ds,y.rc⟩)
     rw[hs];exact hj _ _ ⟨d::y.ds,y.rc⟩
   | pD v=>
     rw[he] at h2
     have h2:cI E call (dS F n r) h y.rc o= .pD v:=h2
     rw[h2]
     show pO E F n (j.run fc (s v r) h ⟨y.ds,.done⟩) (iL E call ops rest ⟨c_ (dS F n r) o.dst v,h,y.ds,.done⟩)
     rw[hs];exact hj _ _ ⟨y.ds,.done⟩
   | panic v h'=>
     rw[he] at h2
     have h2:cI E call (dS F n r) h y.rc o= .panic v h':=h2
     rw[h2]
     exact ⟨by simp,rfl⟩
 | bad=>trivial
def vQ (ts:List AV) (d:Nat) (want:Bool):Bool:=match ts[d]? with
 | some (.bool b)=>b==want
 | _=>false
theorem wJ {ts:List AV} {d:Nat} (h:ts.length≤d) (want:Bool):vQ ts d want=false:=by
 unfold vQ;rw[List.getElem?_eq_none h]
theorem wK {ts:List AV} {d:Nat} {v:AV} (h:ts[d]? =some v) (want:Bool):vQ ts d want=hX (fun b=>b==want) false v:=by
 unfold vQ;rw[h];cases v<;>rfl
theorem ug (ops:Array Oper) (ts:List AV) (o:Oper) {j:Nat} {want:Bool} (hg:o.guard=some (j,want)):b_ ops ts o=(match (ops[j]?).bind (·.dst) with
 | some d=>match ts[d]? with
   | some (.bool b)=>b==want
   | _=>false
 | none=>false):=by simp only[b_,hg];rfl
theorem Oz (ops:Array Oper) (j:Nat):ob none (fun p=>p.dst) (gT ops.toList j)=(ops[j]?).bind (·.dst):=by
 rw[fK,Array.getElem?_toList];cases ops[j]? <;>rfl
theorem OA (_hn:n≤F.N) (ops:Array Oper) (o:Oper) (a b:I F.T) (call:aW) (r:F.T) (h:au) (y:Y):
 (Jc F n ops o a b).run call r h y=bif b_ ops (dS F n r) o then a.run call r h y else b.run call r h y:=by
 unfold Jc
 cases hg:o.guard with
 | none=>simp only[b_,hg];rfl
 | some p=>
   obtain ⟨j,want⟩:=p
   rw[ug ops _ o hg]
   simp only[Oz]
   cases (ops[j]?).bind (·.dst) with
   | none=>rfl
   | some d=>
     show (bc (Nat.ble n d) b (Hs (F.get d).f want a b)).run call r h y=bif vQ (dS F n r) d want then a.run call r h y else b.run call r h y
     cases hd:Nat.ble n d with
     | true=>
       rw[wJ (by rw[gJ];exact eD hd)];rfl
     | false=>
       rw[wK (rF F n r (iR hd)),dj]
       cases want with
       | true=>
         show hX (fun t=>bc t (a.run call r h y) (b.run call r h y)) (b.run call r h y) ((F.get d).f r)=_
         cases (F.get d).f r with
         | bool t=>cases t<;>rfl
         | _=>rfl
       | false=>
         show hX (fun t=>bc t (b.run call r h y) (a.run call r h y)) (b.run call r h y) ((F.get d).f r)=_
         cases (F.get d).f r with
         | bool t=>cases t<;>rfl
         | _=>rfl
theorem Fl (_hn:n≤F.N) (ops:Array Oper) (o:Oper) (a b:D F.T) (call:aW) (r:F.T) (h:au) (y:Y):
 (wG F n ops o a b).run call r h y=bif b_ ops (dS F n r) o then a.run call r h y else b.run call r h y:=by
 unfold wG
 cases hg:o.guard with
 | none=>simp only[b_,hg];rfl
 | some p=>
   obtain ⟨j,want⟩:=p
   rw[ug ops _ o hg]
   simp only[Oz]
   cases (ops[j]?).bind (·.dst) with
   | none=>rfl
   | some d=>
     show (bc (Nat.ble n d) b (N9 (F.get d).f want a b)).run call r h y=bif vQ (dS F n r) d want then a.run call r h y else b.run call r h y
     cases hd:Nat.ble n d with
     | true=>
       rw[wJ (by rw[gJ];exact eD hd)];rfl
     | false=>
       rw[wK (rF F n r (iR hd)),dj]
       cases want with
       | true=>
         show hX (fun t=>bc t (a.run call r h y) (b.run call r h y)) (b.run call r h y) ((F.get d).f r)=_
         cases (F.get d).f r with
         | bool t=>cases t<;>rfl
         | _=>rfl
       | false=>
         show hX (fun t=>bc t (b.run call r h y) (a.run call r h y)) (b.run call r h y) ((F.get d).f r)=_
         cases (F.get d).f r with
         | bool t=>cases t<;>rfl
         | _=>rfl
theorem ze (hn:n≤F.N) {fc call:aW} (hle:iS fc call) (ops:Array Oper):∀(l:List Oper) (r:F.T) (h:au) (y:Y),
 pO E F n ((rI E F n ops l).run fc r h y) (iL E call ops l ⟨dS F n r,h,y.ds,y.rc⟩)
 | [],r,h,y=>rfl
 | o::rest,r,h,y=>by
   have ih:=ze hn hle ops rest
   show pO E F n ((N7 E F n ops o (rI E F n ops rest)).run fc r h y) _
   unfold N7
   obtain ⟨s,h1,hs⟩:=Jp F n hn o.dst (fun s=>Jc F n ops o (Hr (sw E F n o.op) s (rI E F n ops rest)) (U8 s (rI E F n ops rest)))
   rw[h1,OA hn]
   rw[iL]
   cases hw:b_ ops (dS F n r) o with
   | true=>
     rw[if_pos rfl]
     exact S8 hle (Ff o.op) hs ih r h y
   | false=>
     rw[if_neg (by simp)]
     show pO E F n ((rI E F n ops rest).run fc (s AV.undef r) h y) _
     simp only[hs]
     exact ih _ _ _
def madeOf:TK→Option Nat
 | .p_ n _=>some n
 | _=>none
theorem uh (x:Step) (t:List Step):oE (x::t)=match madeOf x.kind with | none=>oE t | some i=>i::oE t:=by
 show List.filterMap (fun x:Step=>madeOf x.kind) (x::t)=_
 rw[List.filterMap_cons];cases madeOf x.kind<;>rfl
inductive ng (E:Env) (ops:Array Oper) (pl:kh):List KP→List Step→Prop
 | nil:ng E ops pl [] []
 | skip {x:Step} {c:List KP} {t:List Step} (hs:∀h,hT E ops x h=true) (hm:madeOf x.kind=none) (ht:ng E ops pl c t):ng E ops pl c (x::t)
 | S9 {x:Step} {c0:KP} {c:List KP} {t:List Step} (hk:c0.k=x.k) (hl:c0.m=iM pl.bD pl.an x.i+1 - x.k) (hm:madeOf x.kind=c0.made)
  (hs:∀h,c0.f h=true→hT E ops x h=true) (ht:ng E ops pl c t):ng E ops pl (c0::c) (x::t)
theorem ng.made {ops:Array Oper} {pl:kh} {c:List KP} {t:List Step} (h:ng E ops pl c t):Jg c=oE t:=by
 induction h with
 | nil=>rfl
 | skip hs hm ht ih=>rw[uh,hm];exact ih
 | S9 hk hl hm hs ht ih=>
   rename_i x c0 c t
   show ob (Jg c) (fun i=>i::Jg c) c0.made=_
   rw[uh,hm,ih]
   cases c0.made<;>rfl
theorem ng.all {ops:Array Oper} {pl:kh} {hs:List au} {c:List KP} {t:List Step} (h:ng E ops pl c t) (e:c.all (fun x=>vI x.f (qp (qo hs x.k) x.m))=true):
 t.all (fun x=>((hs.drop x.k).take (iM pl.bD pl.an x.i+1 - x.k)).all (hT E ops x))=true:=by
 induction h with
 | nil=>rfl
 | skip oJ hm ht ih=>
   rw[List.all_cons,ih e,Bool.and_true,List.all_eq_true]
   intro h _;exact oJ h
 | S9 hk hl hm oJ ht ih=>
   rw[List.all_cons,Bool.and_eq_true] at e
   rw[List.all_cons,ih e.2,Bool.and_true,List.all_eq_true]
   have e1:=e.1
   rw[oV,oe,od,List.all_eq_true,hk,hl] at e1
   intro h hh;exact oJ h (e1 h hh)
theorem zf {ops:Array Oper} {pl:kh} {hs:List au} {c:List KP} {t:List Step} (h:ng E ops pl c t) (e:oX c hs=true):oF E ops pl t hs=true:=by
 unfold oX at e
 rw[mj,Bool.and_eq_true,vL,oV,h.made] at e
 unfold oF
 rw[Bool.and_eq_true]
 exact ⟨e.1,h.all e.2⟩
def AH (E:Env) (F:RF) (n:Nat) (ops:Array Oper) (pl:kh) (d:DO F.T) (t:iw):Prop:=match d with
 | .ok tr hs r h y=>∃GJ,t= .ok GJ hs ⟨dS F n r,h,y.ds,y.rc⟩∧ng E ops pl tr GJ
 | .bad=>True
theorem AH.skip {ops:Array Oper} {pl:kh} {d:DO F.T} {t:iw} (h:AH E F n ops pl d t) {x:Step} (hs:∀h,hT E ops x h=true) (hm:madeOf x.kind=none):AH E F n ops pl d (t.step x):=by
 cases d with
 | bad=>trivial
 | ok tr oJ r h' y=>
   obtain ⟨GJ,rfl,h2⟩:=h
   exact ⟨x::GJ,rfl,.skip hs hm h2⟩
theorem AH.bound {ops:Array Oper} {pl:kh} {d:DO F.T} {t:iw} (h:AH E F n ops pl d t) (h0:au):AH E F n ops pl (oW h0 d) (t.bound h0):=by
 cases d with
 | bad=>trivial
 | ok tr oJ r h' y=>
   obtain ⟨GJ,rfl,h2⟩:=h
   exact ⟨GJ,rfl,h2⟩
theorem AH.S9 {ops:Array Oper} {pl:kh} {d:DO F.T} {t:iw} (h:AH E F n ops pl d t) {x:Step} {c:KP} (hk:c.k=x.k) (hl:c.m=iM pl.bD pl.an x.i+1 - x.k)
 (hm:madeOf x.kind=c.made) (hs:∀h,c.f h=true→hT E ops x h=true):AH E F n ops pl (By c d) (t.step x):=by
 cases d with
 | bad=>trivial
 | ok tr oJ r h' y=>
   obtain ⟨GJ,rfl,h2⟩:=h
   exact ⟨x::GJ,rfl,.S9 hk hl hm hs h2⟩
theorem Fm:∀(m:Nat) (x y:AV),yX m x y=true→AV.same m x y=true
 | 0,_,_,e=>by cases e
 | m+1,x,y,e=>by
   have ih:=Fm m
   have all:∀(a b:List AV),leq (yX m) a b=true→cg (AV.same m) a b=true:=by
    intro a
    induction a with
    | nil=>intro b;cases b<;>intro e<;>first | rfl | cases e
    | cons x tl ihl=>
      intro b
      cases b with
      | nil=>intro e;cases e
      | cons y tm=>
        intro e
        have e:bc (yX m x y) (leq (yX m) tl tm) false=true:=e
        rw[mj,Bool.and_eq_true] at e
        rw[cg,Bool.and_eq_true]
        exact ⟨ih _ _ e.1,ihl _ e.2⟩
   cases x with
   | int k a=>cases y with
     | int j b=>
       have e:bc (NT k j) (U3 a b) false=true:=e
       rw[mj,Bool.and_eq_true,Hu] at e
       rw[AV.same,Jk e.1,e.2];simp
     | _=>cases e
   | str a=>cases y with
     | str b=>
       have e:leq yR a b=true:=e
       rw[Hv] at e
       rw[AV.same];exact e
     | _=>cases e
   | ptr i o=>cases y with
     | ptr j p=>
       have e:bc (Nat.beq i j) (Nat.beq o p) false=true:=e
       rw[mj,Bool.and_eq_true] at e
       rw[AV.same,km e.1,km e.2];simp
     | _=>cases e
   | bool a=>cases y with
     | bool b=>
       have e:bc a b (s_ b)=true:=e
       rw[AV.same]
       cases a<;>cases b<;>first | rfl | cases e
     | _=>cases e
   | agg a=>cases y with
     | agg b=>rw[AV.same];exact all a b e
     | _=>cases e
   | _=>exact e
theorem zg (hn:n≤F.N) {fc call:aW} (hle:iS fc call) (ops:Array Oper) (pl:kh):∀(l:List Nat) (k:Nat) (r:F.T) (h:au) (y:Y),
 AH E F n ops pl ((hF E F n ops pl l k).run fc r h y) (cx E call ops l k ⟨dS F n r,h,y.ds,y.rc⟩)
 | [],k,r,h,y=>⟨[],rfl,.nil⟩
 | i::rest,k,r,h,y=>by
   have ih:=zg hn hle ops pl rest
   rw[cx]
   show AH E F n ops pl (D.run (ob ⟨fun _ _ _ _=> .bad⟩ (fun o=>wS F n o.dst fun s=>
    bc (oa E o.op) (canon (k+1) fun k'=>wG F n ops o (Jd (sw E F n o.op) s (hF E F n ops pl rest k')) (Ht s (hF E F n ops pl rest k')))
     (canon (xY pl.bD pl.an i+1 - k) fun m=>wG F n ops o (Je k m (sw E F n o.op) s (hF E F n ops pl rest k)) (N8 s (hF E F n ops pl rest k)))) (gT ops.toList i)) fc r h y) _
   rw[fK,Array.getElem?_toList]
   cases ho:ops[i]? with
   | none=>trivial
   | some o=>
     have fB:(ops.getD i default).op=o.op:=by rw[Array.getD_eq_getD_getElem?,ho];rfl
     simp only[SK,jI,qu,Hp]
     obtain ⟨s,h1,hs⟩:=Jp F n hn o.dst (fun s=>
      bc (et E o.op) (wG F n ops o (Jd (sw E F n o.op) s (hF E F n ops pl rest (k+1))) (Ht s (hF E F n ops pl rest (k+1))))
      (wG F n ops o (Je k (iM pl.bD pl.an i+1 - k) (sw E F n o.op) s (hF E F n ops pl rest k)) (N8 s (hF E F n ops pl rest k))))
     rw[h1]
     have hk:=Ff (E:=E) (F:=F) (n:=n) o.op
     generalize sw E F n o.op=kd at hk
     cases he:et E o.op with
     | true=>
       rw[hI,Fl hn,if_pos rfl]
       cases hw:b_ ops (dS F n r) o with
       | false=>
         rw[if_neg (by simp)]
         show AH E F n ops pl (oW h ((hF E F n ops pl rest (k+1)).run fc (s AV.undef r) h y)) _
         simp only[hs]
         exact ((ih _ _ _ _).bound h).skip (fun _=>rfl) rfl
       | true=>
         rw[if_pos rfl]
         show AH E F n ops pl ((Jd kd s (hF E F n ops pl rest (k+1))).run fc r h y) _
         cases kd with
         | wr f=>
           show AH E F n ops pl (ob .bad (fun p=>oW h ((hF E F n ops pl rest (k+1)).run fc (s p.1 r) p.2 y)) (f r h)) _
           cases hf:f r h with
           | none=>trivial
           | some p=>
             simp only[hk.2 call r h y.rc o p rfl hf,hs]
             exact ((ih _ _ _ _).bound h).skip (fun _=>rfl) rfl
         | call g args=>
           show AH E F n ops pl (gY.rec (motive:=fun _=>DO F.T) (fun v h'=>oW h ((hF E F n ops pl rest (k+1)).run fc (s v r) h' y)) (fun _ _=> .bad) (fun _ _=> .bad) (fc g (args r) h)) _
           cases hc:fc g (args r) h with
           | fail _ _=>trivial
           | panic _ _=>trivial
           | ret v h'=>
             simp only[hk.2 call r h y.rc o rfl,(hle _ _ _).1 v h' hc,kO,hs]
             exact ((ih _ _ _ _).bound h).skip (fun _=>rfl) rfl
         | rW f=>
           show AH E F n ops pl (vr.rec (motive:=fun _=>DO F.T) (fun v h'=>oW h ((hF E F n ops pl rest (k+1)).run fc (s v r) h' y)) (fun _=> .bad) (fun _=> .bad) (fun _ _=> .bad) (fun _ _=> .bad) (f fc r h y.rc)) _
           have h2:=hk.2 fc call hle r h y.rc o rfl
           cases hf:f fc r h y.rc with
           | val v h'=>
             rw[hf] at h2
             have h2:cI E call (dS F n r) h y.rc o= .val v h':=h2
             simp only[h2,hs]
             exact ((ih _ _ _ _).bound h).skip (fun _=>rfl) rfl
           | _=>trivial
         | _=>trivial
     | false=>
       rw[dj,Fl hn,if_neg (by simp)]
       cases hw:b_ ops (dS F n r) o with
       | false=>
         rw[if_neg (by simp)]
         show AH E F n ops pl ((hF E F n ops pl rest k).run fc (s AV.undef r) h y) _
         simp only[hs]
         exact (ih _ _ _ _).skip (fun _=>rfl) rfl
       | true=>
         rw[if_pos rfl]
         show AH E F n ops pl ((Je k (iM pl.bD pl.an i+1 - k) kd s (hF E F n ops pl rest k)).run fc r h y) _
         cases kd with
         | D2 g=>
           simp only[hk r,hs]
           exact (ih _ _ _ _).skip (fun _=>rfl) rfl
         | fF f=>
           show AH E F n ops pl (ob .bad (fun v=>(hF E F n ops pl rest k).run fc (s v r) h y) (f r)) _
           cases hf:f r with
           | none=>trivial
           | some v=>
             simp only[hk r v hf,hs]
             exact (ih _ _ _ _).skip (fun _=>rfl) rfl
         | red f=>
           show AH E F n ops pl (ob .bad (fun v=>By ⟨k,_,none,fun h'=>ob false (fun v'=>yX 20 v' v) (f r h')⟩ ((hF E F n ops pl rest k).run fc (s v r) h y)) (f r h)) _
           cases hf:f r h with
           | none=>trivial
           | some v=>
             rcases hk r h v hf with q0 | ⟨q0,q1⟩
             · simp only[q0,hs]
               exact (ih _ _ _ _).S9 rfl rfl rfl fun h' _=>rfl
             simp only[q0,q1,hs]
             refine (ih _ _ _ _).S9 rfl rfl rfl fun h' e=>?_
             have e:ob false (fun v'=>yX 20 v' v) (f r h')=true:=e
             cases WQ:f r h' with
             | none=>rw[WQ] at e;cases e
             | some v'=>
               rw[WQ] at e
               rcases hk r h' v' WQ with q2 | ⟨_,q3⟩
               · rw[q0] at q2;cases q2
               simp only[hT,fB,q3]
               exact Fm 20 v' v e
         | p_ f=>
           obtain ⟨h3,h4,h5⟩:=hk
           show AH E F n ops pl (ob .bad (fun p=>ob .bad (fun h'=>By ⟨k,_,some h.nx,fun Jf=>ob false (fun o=>aR.same o p.1) (Jf.get h.nx)⟩ ((hF E F n ops pl rest k).run fc (s (p.2 h.nx) r) h' y)) (h.new p.1)) (f r)) _
           cases hf:f r with
           | none=>trivial
           | some p=>
             obtain ⟨obj,mk⟩:=p
             show AH E F n ops pl (ob .bad (fun h'=>By ⟨k,_,some h.nx,fun Jf=>ob false (fun o=>aR.same o obj) (Jf.get h.nx)⟩ ((hF E F n ops pl rest k).run fc (s (mk h.nx) r) h' y)) (h.new obj)) _
             cases hh:h.new obj with
             | none=>trivial
             | some h'=>
               simp only[h3,h4,h5 r _ hf,hh,hs]
               refine (ih _ _ _ _).S9 rfl rfl rfl fun Jf e=>?_
               have e:ob false (fun o=>aR.same o obj) (Jf.get h.nx)=true:=e
               cases WQ:Jf.get h.nx with
               | none=>rw[WQ] at e;cases e
               | some o'=>
                 rw[WQ] at e
                 simp only[hT,WQ]
                 exact e
         | _=>trivial
theorem OB {fc call:aW} (hle:iS fc call) {ts:List AV} {h h':au} {rc:RC} {dst:Option Tmp} {c:Call} {ty:TypeId} {pos:String} {after:Array Edge} {guard:Option (Nat×Bool)} {v:AV} (e:cI E fc ts h rc ⟨dst,.call c,ty,pos,after,guard⟩= .panic v h'):
 cI E call ts h rc ⟨dst,.call c,ty,pos,after,guard⟩= .panic v h':=by
 obtain ⟨dw,args,aT⟩:=c
 cases dw with
 | builtin b=>
   cases b<;>simp only[cI] at e<;>(try (simp at e;done))<;>(split at e<;>(try (simp at e;done))<;>(try (split at e<;>simp at e)))
 | value f=>
   simp only[cI] at e ⊢
   split at e
   · split at e
     · split at e<;>simp at e
     · split at e
       · simp at e
       · rename_i hc
         simp at e;obtain ⟨rfl,rfl⟩:=e
         simp only[(hle _ _ _).2 _ _ hc]
       · simp at e
   · simp at e
 | invoke x name=>
   simp only[cI] at e ⊢
   split at e
   · split at e
     · split at e
       · simp at e
       · rename_i hc
         simp at e;obtain ⟨rfl,rfl⟩:=e
         simp only[(hle _ _ _).2 _ _ hc]
       · simp at e
     · simp at e
   · simp at e
theorem ng.snoc {ops:Array Oper} {pl:kh} {c:List KP} {t:List Step} (h:ng E ops pl c t) {x:Step} (hs:∀h,hT E ops x h=true) (hm:madeOf x.kind=none):ng E ops pl c (t++[x]):=by
 induction h with
 | nil=>exact .skip hs hm .nil
 | skip a b _ ih=>exact .skip a b ih
 | S9 a b d e _ ih=>exact .S9 a b d e ih
theorem S_ (hn:n≤F.N) {fc call:aW} (hle:iS fc call) (ops:Array Oper) (pl:kh) (r:F.T) (h:au) (y:Y):
 pO E F n (SI E F n ops pl fc r h y) (match cx E call ops pl.order 0 ⟨dS F n r,h,y.ds,y.rc⟩ with
  | .ok tr hs s'=>if oF E ops pl tr hs then .ok .normal s' else .fail "still" (ops[0]?)
  | .fail why o=>match yn E call ops ⟨dS F n r,h,y.ds,y.rc⟩ pl with
    | some (v,s2)=> .ok (.panic v) s2
    | none=> .fail why o):=by
 unfold SI
 split
 · trivial
 rename_i i front Sl
 split
 · rename_i tr hs r1 h1 y1 dst c ty pos after guard hd ho
   split
   · rename_i v h' Cw NC
     split
     · rename_i hl
       have hk:=zg (E:=E) hn hle ops pl front.reverse 0 r h y
       rw[hd] at hk
       obtain ⟨GJ,e1,e2⟩:=hk
       have Ny:pl.order=front.reverse++[i]:=by
        have:=congrArg List.reverse Sl
        simpa using this
       have Z7:=OB hle NC
       have Kv:=Cw
       simp only[Bool.and_eq_true] at Kv
       obtain ⟨why,q,e3⟩:=vD ho Kv.1.1 front.reverse 0 _ e1 Kv.1.2 Z7
       rw[Ny,e3]
       have ND:yn E call ops ⟨dS F n r,h,y.ds,y.rc⟩ pl=some (v,⟨dS F n r1,h',y1.ds,y1.rc⟩):=by
        unfold yn
        rw[Sl]
        simp only[e1,ho,Cw,if_true,Z7]
        rw[if_pos (zf (e2.snoc (fun _=>rfl) rfl) hl)]
       simp only[ND]
       exact ⟨by simp,rfl⟩
     · trivial
   · trivial
 · trivial
theorem OC (hn:n≤F.N) {fc call:aW} (hle:iS fc call) (ops:Array Oper) (r:F.T) (h:au) (y:Y):
 pO E F n ((Jh E F n ops).run fc r h y) (tL E call ops ⟨dS F n r,h,y.ds,y.rc⟩):=by
 unfold Jh tL
 rw[N2]
 cases p8 E ops with
 | none=>trivial
 | some pl=>
   show pO E F n (DO.rec (motive:=fun _=>FO F.T) (fun tr hs r' h' y'=>bc (oX tr hs) (.EY r' h' y') .bad) (SI E F n ops pl fc r h y) ((hF E F n ops pl pl.order 0).run fc r h y)) _
   have:=zg (E:=E) hn hle ops pl pl.order 0 r h y
   cases hd:(hF E F n ops pl pl.order 0).run fc r h y with
   | bad=>exact S_ hn hle ops pl r h y
   | ok tr hs r' h' y'=>
     rw[hd] at this
     obtain ⟨GJ,h1,h2⟩:=this
     show pO E F n (bc (oX tr hs) (.EY r' h' y') .bad) _
     cases hl:oX tr hs with
     | false=>trivial
     | true=>
       simp only[h1]
       rw[if_pos (zf h2 hl)]
       rfl
end Go.Ab.Fa
end
section
namespace Go.Ab.Fa
variable {E:Env} {F:RF} {n:Nat}
theorem Fo {fc call:aW} (hle:iS fc call) {f:Operand} {ps:Array Tmp} {as_ bd:Code} {s:St} {e:gR} {s':St} (h:jJ E fc f ps as_ bd s= .ok e s'):jJ E call f ps as_ bd s= .ok e s':=by
 unfold jJ at h ⊢
 split at h
 case h_2=>cases h
 rename_i g first captured hv
 split at h
 case h_2=>cases h
 rename_i dn h1 V2 ho
 split at h
 case h_2=>cases h
 rename_i h2 hn
 cases hc:fc (.fn g) (first++[.cr h1.nx]++captured) h2 with
 | ret v h3=>rw[hc] at h;rw[(hle _ _ _).1 _ _ hc];exact h
 | panic v h3=>rw[hc] at h;rw[(hle _ _ _).2 _ _ hc];exact h
 | fail why q=>rw[hc] at h;cases h
theorem K0 {call:aW} {f:Operand} {ps:Array Tmp} {as_ bd:Code} {s:St} {e:gR} {s':St} (h:jJ E call f ps as_ bd s= .ok e s'):s'.ts=s.ts:=by
 unfold jJ at h
 split at h
 case h_2=>cases h
 split at h
 case h_2=>cases h
 split at h
 case h_2=>cases h
 split at h
 · split at h
   · cases h
   · split at h
     · simp only[Out.ok.injEq] at h;rw[←h.2]
     · cases h
   · cases h
 · simp only[Out.ok.injEq] at h;rw[←h.2]
 · cases h
theorem OD {o:FO F.T} {out:Out} (h:pO E F n o out) {k:F.T→au→Y→FO F.T} {g:St→Out} (hk:∀r h y,pO E F n (k r h y) (g ⟨dS F n r,h,y.ds,y.rc⟩)):
 pO E F n (fo k .jmp .bad o) (match (generalizing:=false) out with | .ok .normal s'=>g s' | r=>r):=by
 cases o with
 | EY r h' y=>rw[show out=_ from h];exact hk r h' y
 | jmp e r h' y=>
   obtain ⟨h1,h2⟩:=h
   rw[h2]
   cases e with
   | normal=>exact absurd rfl h1
   | _=>exact ⟨by simp,rfl⟩
 | bad=>trivial
theorem jO (hn:n≤F.N) {fc call:aW} (hle:iS fc call):∀(c:Code) (m:Nat) (r:F.T) (h:au) (y:Y),
 pO E F n ((kP E F n c).run m fc r h y) (exec E call m c ⟨dS F n r,h,y.ds,y.rc⟩)
 | .skip,m,r,h,y=>by cases m with
   | zero=>trivial
   | succ m=>exact rfl
 | .label _,m,r,h,y=>by cases m with
   | zero=>trivial
   | succ m=>exact rfl
 | .ret,m,r,h,y=>by cases m with
   | zero=>trivial
   | succ m=>exact ⟨by simp,rfl⟩
 | .exit id,m,r,h,y=>by cases m with
   | zero=>trivial
   | succ m=>exact ⟨by simp,rfl⟩
 | .region _ ops draw,m,r,h,y=>by
   cases m with
   | zero=>cases draw<;>trivial
   | succ m=>cases draw with
     | true=>exact OC hn hle ops r h y
     | false=>exact ze hn hle ops ops.toList r h y
 | .seq a b,m,r,h,y=>by cases m with
   | zero=>trivial
   | succ m=>
     have h1:=jO hn hle a m r h y
     have h2:=jO hn hle b m
     exact OD h1 (g:=fun s'=>exec E call m b s') h2
 | .cond x a b,m,r,h,y=>by
   have ha:=jO hn hle a
   have hb:=jO hn hle b
   show pO E F n (C.run (wO E F n x (fun g=>⟨fun m call r h y=>nS .bad (fun i=>hX (fun t=>bc t ((kP E F n a).run i call r h y) ((kP E F n b).run i call r h y)) .bad (g r)) m⟩) ⟨fun _ _ _ _ _=> .bad⟩) m fc r h y) _
   rcases bM E F n x (fun g=>(⟨fun m call r h y=>nS .bad (fun i=>hX (fun t=>bc t ((kP E F n a).run i call r h y) ((kP E F n b).run i call r h y)) .bad (g r)) m⟩:C F.T)) ⟨fun _ _ _ _ _=> .bad⟩ with hw | ⟨g,hw,hg⟩<;>rw[hw]
   · trivial
   cases m with
   | zero=>trivial
   | succ m=>
     show pO E F n (hX (fun t=>bc t ((kP E F n a).run m fc r h y) ((kP E F n b).run m fc r h y)) .bad (g r)) _
     rw[exec]
     simp only[hg]
     cases g r with
     | bool t=>cases t with
       | true=>exact ha m r h y
       | false=>exact hb m r h y
     | _=>trivial
 | .block id b,m,r,h,y=>by cases m with
   | zero=>trivial
   | succ m=>
     have hb:=jO hn hle b m r h y
     show pO E F n (fo .EY (fun e r' h' y'=>N_ (fun j=>bc (Nat.beq j id) (.EY r' h' y') (.jmp e r' h' y')) (.jmp e r' h' y') e) .bad ((kP E F n b).run m fc r h y)) _
     rw[exec]
     cases hr:(kP E F n b).run m fc r h y with
     | bad=>trivial
     | EY r' h' y'=>
       rw[hr] at hb
       have hb:exec E call m b _= .ok .normal ⟨dS F n r',h',y'.ds,y'.rc⟩:=hb
       rw[hb];exact rfl
     | jmp e r' h' y'=>
       rw[hr] at hb
       obtain ⟨h1,h2⟩:=hb
       rw[h2]
       cases e with
       | normal=>exact absurd rfl h1
       | exit j=>
         show pO E F n (bc (Nat.beq j id) (.EY r' h' y') (.jmp (.exit j) r' h' y')) (if j=id then _ else _)
         cases hj:Nat.beq j id with
         | true=>rw[if_pos (km hj)];exact rfl
         | false=>rw[if_neg (by intro e;rw[e,Nat.beq_refl] at hj;cases hj)];exact ⟨by simp,rfl⟩
       | ret=>exact ⟨by simp,rfl⟩
       | panic v=>exact ⟨by simp,rfl⟩
 | .loop b,m,r,h,y=>by
   have hb:=jO hn hle b
   show pO E F n (N' (kP E F n b) m fc r h y) _
   induction m generalizing r h y with
   | zero=>trivial
   | succ m ih=>
     show pO E F n (fo (fun r' h' y'=>N' (kP E F n b) m fc r' h' y') .jmp .bad ((kP E F n b).run m fc r h y)) _
     exact OD (hb m r h y) (g:=fun s'=>exec E call m (.loop b) s') ih
 | .rangeFunc f ps as_ bd,m,r,h,y=>by
   show pO E F n ((SJ (C5 E F n f ps as_ bd)).run m fc r h y) _
   cases m with
   | zero=>trivial
   | succ m=>
     show pO E F n ((C5 E F n f ps as_ bd).run fc r h y) (jJ E call f ps as_ bd ⟨dS F n r,h,y.ds,y.rc⟩)
     unfold C5
     rcases bM E F n f (fun _=>(⟨fun call r h y=>U9 r (jJ E call f ps as_ bd ⟨dS F n r,h,y.ds,y.rc⟩)⟩:I F.T)) ⟨fun _ _ _ _=> .bad⟩ with hw | ⟨g,hw,_⟩<;>rw[hw]
     · trivial
     simp only
     cases hr:jJ E fc f ps as_ bd ⟨dS F n r,h,y.ds,y.rc⟩ with
     | fail _ _=>trivial
     | ok e s=>
       rw[Fo hle hr]
       have ht:=K0 hr
       obtain ⟨ts,hh,ds,rc⟩:=s
       simp only at ht
       subst ht
       cases e with
       | normal=>exact rfl
       | _=>exact ⟨by simp,rfl⟩
 | .scope b,m,r,h,y=>by cases m with
   | zero=>trivial
   | succ m=>exact jO hn hle b m r h y
 | .goto _,m,r,h,y=>trivial
 | .refuse _,m,r,h,y=>trivial
theorem ui:∀(l:List ResultVar) (r:F.T) (h:au) (vs:List AV),(vN E F n l).f r h=some vs→iy E h (dS F n r) l=some vs
 | [],r,h,vs,e=>e
 | .tmp t::rest,r,h,vs,e=>by
   rw[vN] at e
   obtain ⟨g,h1,h2⟩:=C8 F n t (fun g=>wW (vN E F n rest) fun k=>(⟨fun r h=>ob none (fun vs=>some (g r::vs)) (k r h)⟩:W (F.T→au→Option (List AV))))
   rw[h1] at e
   obtain ⟨oK,h3,h4⟩:=fD (show ob none (fun vs=>some (g r::vs)) ((vN E F n rest).f r h)=some vs from e)
   rw[iy]
   simp only[h2,ui rest r h oK h3]
   exact h4
 | .cell a t::rest,r,h,vs,e=>by
   rw[vN] at e
   obtain ⟨g,h1,h2⟩:=C8 F n a (fun g=>wW (vN E F n rest) fun k=>(⟨fun r h=>ob none (fun v=>ob none (fun vs=>some (v::vs)) (k r h)) (bw E h t (g r))⟩:W (F.T→au→Option (List AV))))
   rw[h1] at e
   obtain ⟨v,h3,h4⟩:=fD (show ob none (fun v=>ob none (fun vs=>some (v::vs)) ((vN E F n rest).f r h)) (bw E h t (g r))=some vs from e)
   obtain ⟨oK,h5,h6⟩:=fD h4
   rw[iy]
   simp only[h2,h3,ui rest r h oK h5]
   exact h6
def BOk (E:Env) (rs:List ResultVar) (b:BO) (out:Out):Prop:=match b with
 | .fin res h y=>∃e ts,(e= .normal∨e= .ret)∧out= .ok e ⟨ts,h,y.ds,y.rc⟩∧∀h' vs,res h'=some vs→iy E h' ts rs=some vs
 | .Z2 v res h y=>∃ts,out= .ok (.panic v) ⟨ts,h,y.ds,y.rc⟩∧∀h' vs,res h'=some vs→iy E h' ts rs=some vs
 | .bad=>True
theorem Fq {fc call:aW} (hle:iS fc call) (F:RF) (fn:Func) (hn:fn.ntmps≤F.N) (b:Code) (fuel:Nat) (args:List AV) (h:au) (rc:RC):
 BOk E fn.results.toList ((Oa E F fn.ntmps fn b).run fuel fc args h rc) (kL E call fuel fn b args h rc):=by
 show BOk E _ (bc (Nat.ble (gS args) fn.ntmps)
  (fo (fun r h' y=> .fin ((vN E F fn.ntmps fn.results.toList).f r) h' y) (fun e r h' y=>gR.rec (motive:=fun _=>BO) .bad (fun _=> .bad) (.fin ((vN E F fn.ntmps fn.results.toList).f r) h' y) (fun v=> .Z2 v ((vN E F fn.ntmps fn.results.toList).f r) h' y) e) .bad
   ((kP E F fn.ntmps b).run fuel fc (MV F args F.z 0) h ⟨[],rc⟩)) .bad) _
 cases hl:Nat.ble (gS args) fn.ntmps with
 | false=>trivial
 | true=>
   have hl:=eD hl
   rw[eL] at hl
   have:=jO (E:=E) hn hle b fuel (MV F args F.z 0) h ⟨[],rc⟩
   rw[I7 F fn.ntmps hn args hl] at this
   rw[hI]
   unfold kL
   cases hr:(kP E F fn.ntmps b).run fuel fc (MV F args F.z 0) h ⟨[],rc⟩ with
   | bad=>trivial
   | EY r h' y=>
     rw[hr] at this
     exact ⟨.normal,_,.inl rfl,this,fun Jf vs e=>ui _ r Jf vs e⟩
   | jmp e r h' y=>
     rw[hr] at this
     obtain ⟨h1,h2⟩:=this
     cases e with
     | normal=>exact absurd rfl h1
     | exit _=>trivial
     | ret=>exact ⟨.ret,_,.inr rfl,h2,fun Jf vs e=>ui _ r Jf vs e⟩
     | panic v=>exact ⟨_,h2,fun Jf vs e=>ui _ r Jf vs e⟩
theorem Fs {fc call:aW} (hle:iS fc call) (f:FuncId) (fuel:Nat) (args:List AV) (h:au) (rc:RC):
 (wH E f).run fuel fc args h rc= .bad∨∃fn b,E.P.funcs[f]? =some fn∧fn.body=some b∧BOk E fn.results.toList ((wH E f).run fuel fc args h rc) (kL E call fuel fn b args h rc):=by
 unfold wH
 rw[SB]
 cases hf:E.P.funcs[f]? with
 | none=>exact .inl rfl
 | some fn=>
   simp only
   cases hb:fn.body with
   | none=>exact .inl rfl
   | some b=>
     refine .inr ⟨fn,b,rfl,hb,?_⟩
     simp only
     cases h1:Nat.ble fn.ntmps 64 with
     | true=>exact Fq hle rf2 fn (eD h1) b fuel args h rc
     | false=>cases h2:Nat.ble fn.ntmps 512 with
       | true=>exact Fq hle rf3 fn (eD h2) b fuel args h rc
       | false=>trivial
theorem qx {fc call:aW} (hle:iS fc call) {fuel:Nat} {c:Code} {s:St} {e:gR} {s':St} (h:Jj E fc fuel c s= .ok e s'):exec E call fuel c s= .ok e s':=by
 have key:∀F:RF,s.ts.length≤F.N→Ji E F fc fuel c s= .ok e s'→exec E call fuel c s= .ok e s':=by
  intro F hn hx
  have:=jO (E:=E) hn hle c fuel (MV F s.ts F.z 0) s.h ⟨s.ds,s.rc⟩
  rw[I7 F s.ts.length hn s.ts (Nat.le_refl _),Nat.sub_self,List.replicate_zero,List.append_nil] at this
  unfold Ji at hx
  cases hr:(kP E F s.ts.length c).run fuel fc (MV F s.ts F.z 0) s.h ⟨s.ds,s.rc⟩ with
  | bad=>rw[hr] at hx;cases hx
  | EY r h' y=>rw[hr] at hx this;rw[show exec E call fuel c s=_ from this];exact hx
  | jmp e' r h' y=>rw[hr] at hx this;rw[show exec E call fuel c s=_ from this.2];exact hx
 unfold Jj at h
 cases h1:Nat.ble s.ts.length 64 with
 | true=>rw[h1] at h;exact key rf2 (eD h1) h
 | false=>cases h2:Nat.ble s.ts.length 512 with
   | true=>rw[h1,h2] at h;exact key rf3 (eD h2) h
   | false=>rw[h1,h2] at h;cases h
noncomputable def De (E:Env) (call:aW) (fuel:Nat) (g:FuncId) (as_:List AV) (h:au) (rc:RC):Option (au×RC):=match E.P.funcs[g]? with
 | none=>none
 | some fg=>match fg.body with
   | none=>none
   | some bg=>match kL E call fuel fg bg as_ h rc with
     | .ok .normal s'=>if s'.ds.isEmpty&&(iy E s'.h s'.ts fg.results.toList).isSome then some (s'.h,s'.rc) else none
     | .ok .ret s'=>if s'.ds.isEmpty&&(iy E s'.h s'.ts fg.results.toList).isSome then some (s'.h,s'.rc) else none
     | _=>none
theorem OE {fc call:aW} (hle:iS fc call) {fuel:Nat} {g:FuncId} {as_:List AV} {h:au} {rc:RC} {p:au×RC} (e:fV E fc fuel g as_ h rc=some p):De E call fuel g as_ h rc=some p:=by
 unfold fV at e
 rcases Fs (E:=E) hle g fuel as_ h rc with h1 | ⟨fn,b,h1,h2,h3⟩
 · rw[h1] at e;cases e
 · unfold De
   rw[h1];simp only;rw[h2];simp only
   cases hr:(wH E g).run fuel fc as_ h rc with
   | bad=>rw[hr] at e;cases e
   | Z2 v res h' y=>rw[hr] at e;cases e
   | fin res h' y=>
     rw[hr] at e h3
     obtain ⟨x,ts,h4,h5,h6⟩:=h3
     obtain ⟨h7,e1⟩:=eC (show bc y.ds.isEmpty (ob none (fun _=>some (h',y.rc)) (res h')) none=some p from e)
     obtain ⟨vs,h8,e2⟩:=fD e1
     rw[h5]
     rcases h4 with rfl | rfl
     · simp only[h7,h6 h' vs h8,Option.isSome_some,Bool.and_self,if_true];exact e2
     · simp only[h7,h6 h' vs h8,Option.isSome_some,Bool.and_self,if_true];exact e2
theorem jP {f g:FuncId→List AV→au→RC→Option (au×RC)} (YF:∀k as_ h rc p,f k as_ h rc=some p→g k as_ h rc=some p):∀(ds:List nw) (p:Option AV) (h:au) {q:Option AV×au},cn f ds p h=some q→cn g ds p h=some q
 | [],p,h,q,e=>by cases p<;>exact e
 | .MI r::ds,p,h,q,e=>by
   rw[cn] at e ⊢
   split at e
   · exact jP YF ds p _ e
   · cases e
 | .call k as_::ds,none,h,q,e=>by
   rw[cn] at e ⊢
   cases hf:f k as_ h .no with
   | none=>rw[hf] at e;cases e
   | some p=>rw[hf] at e;rw[YF _ _ _ _ _ hf];obtain ⟨h',Sp⟩:=p;exact jP YF ds none h' e
 | .call k as_::ds,some v,h,q,e=>by
   rw[cn] at e ⊢
   cases hf:f k as_ h (.fS v) with
   | none=>rw[hf] at e;cases e
   | some p=>
     rw[hf] at e;rw[YF _ _ _ _ _ hf];obtain ⟨h',Sp⟩:=p
     cases Sp with
     | fS w=>exact jP YF ds _ h' e
     | done=>exact jP YF ds _ h' e
     | _=>cases e
theorem K2 {fc call:aW} (hle:iS fc call) (fuel:Nat) (l:Nat) (args:List AV) (h:au):(∀v h',yY E fc fuel l args h= .ret v h'→oG E call fuel l args h= .ret v h')∧∀v h',yY E fc fuel l args h= .panic v h'→oG E call fuel l args h= .panic v h':=by
 have key:∀out:gY,(∀why o,out≠ .fail why o)→yY E fc fuel l args h=out→oG E call fuel l args h=out:=by
  intro out nV e
  unfold yY at e
  unfold oG
  split at e
  case h_2=>exact absurd e.symm (nV _ _)
  rename_i st pd ts ps as_ bd dn hg
  rw[hg]
  simp only
  by_cases ha:args.length=ps.length
  · rw[if_pos ha] at e ⊢
    split at e
    · rename_i s1 h1
      rw[qx hle h1]
      simp only
      split at e
      · rename_i pd RA M8 MK RB RD Z8
        rw[Z8]
        simp only
        split at e
        · rename_i s2 h2;rw[qx hle h2];exact e
        · rename_i s2 h2;rw[qx hle h2];exact e
        · rename_i id s2 h2;rw[qx hle h2];exact e
        · rename_i v s2 h2;rw[qx hle h2];exact e
        · exact absurd e.symm (nV _ _)
      · exact absurd e.symm (nV _ _)
    · exact absurd e.symm (nV _ _)
    · exact absurd e.symm (nV _ _)
  · rw[if_neg ha] at e;exact absurd e.symm (nV _ _)
 exact ⟨fun v h' e=>key _ (by simp) e,fun v h' e=>key _ (by simp) e⟩
noncomputable def OF (E:Env) (call:aW) (fuel:Nat) (fn:Func) (p:Option AV) (s:St):gY:=match cn (De E call fuel) s.ds p s.h with
 | none=> .fail "unwind" none
 | some (some v,h')=> .panic v h'
 | some (none,h')=>match iy E h' s.ts fn.results.toList with
   | some vs=> .ret (eW vs) h'
   | none=> .fail "results" none
theorem Hz (d fuel:Nat) {f:FuncId} {fn:Func} {b:Code} (hf:E.P.funcs[f]? =some fn) (hb:fn.body=some b) (args:List AV) (h:au):
 ft E (d+1) fuel (.fn f) args h=(match kL E (ft E d fuel) fuel fn b args h .no with
  | .ok .normal s=>OF E (ft E d fuel) fuel fn none s
  | .ok .ret s=>OF E (ft E d fuel) fuel fn none s
  | .ok (.panic v) s=>OF E (ft E d fuel) fuel fn (some v) s
  | .ok (.exit _) _=> .fail "exit" none
  | .fail why o=> .fail (why++ " in " ++fn.name) o):=by
 rw[ft]
 simp only[hf,hb]
 rfl
theorem Js {fc call:aW} (hle:iS fc call) {fuel:Nat} {fn:Func} {p:Option AV} {res:au→Option (List AV)} {ts:List AV} {h:au} {y:Y} (AT:∀h' vs,res h'=some vs→iy E h' ts fn.results.toList=some vs) {out:gY} (ho:∀why o,out≠ .fail why o)
 (e:E3 (p.elim (ob (.fail "results" none) (fun vs=>gY.ret (eW vs) h) (res h)) (fun v=> .panic v h)) (E2 E fc fuel p res h y.ds) y.ds=out):OF E call fuel fn p ⟨ts,h,y.ds,y.rc⟩=out:=by
 unfold OF
 cases hd:y.ds with
 | nil=>
   rw[hd] at e
   cases p with
   | some v=>exact e
   | none=>
     have e:ob (.fail "results" none) (fun vs=>gY.ret (eW vs) h) (res h)=out:=e
     cases hr:res h with
     | none=>rw[hr] at e;exact absurd e.symm (ho _ _)
     | some vs=>
       rw[hr] at e
       simp only[cn,AT h vs hr]
       exact e
 | cons d ds=>
   rw[hd] at e
   have e:E2 E fc fuel p res h (d::ds)=out:=e
   unfold E2 at e
   cases hu:cn (fV E fc fuel) (d::ds) p h with
   | none=>rw[hu] at e;exact absurd e.symm (ho _ _)
   | some q=>
     rw[hu] at e
     have:=jP (g:=De E call fuel) (fun k as_ h rc p e=>OE hle e) (d::ds) p h hu
     simp only[this]
     obtain ⟨q1,h'⟩:=q
     cases q1 with
     | some v=>exact e
     | none=>
       have e:ob (.fail "results" none) (fun vs=>gY.ret (eW vs) h') (res h')=out:=e
       cases hr:res h' with
       | none=>rw[hr] at e;exact absurd e.symm (ho _ _)
       | some vs=>rw[hr] at e;simp only[AT h' vs hr];exact e
theorem Ft (fuel:Nat):∀d,iS (wI E d fuel) (ft E d fuel)
 | 0=>fun _ _ _=>⟨fun _ _ e=>(by cases e),fun _ _ e=>(by cases e)⟩
 | d+1=>by
   have ih:=Ft fuel d
   intro g args h
   cases g with
   | sL l=>exact K2 ih fuel l args h
   | fn f=>
     have key:∀out:gY,(∀why o,out≠ .fail why o)→wI E (d+1) fuel (.fn f) args h=out→ft E (d+1) fuel (.fn f) args h=out:=by
      intro out ho e
      have e:bo (fun res h' y=>E3 (ob (.fail "results" none) (fun vs=>gY.ret (eW vs) h') (res h')) (E2 E (wI E d fuel) fuel none res h' y.ds) y.ds)
       (fun v res h' y=>E3 (.panic v h') (E2 E (wI E d fuel) fuel (some v) res h' y.ds) y.ds) (.fail "body" none) ((wH E f).run fuel (wI E d fuel) args h .no)=out:=e
      rcases Fs (E:=E) ih f fuel args h .no with h1 | ⟨fn,b,h1,h2,h3⟩
      · rw[h1] at e;exact absurd e.symm (ho _ _)
      · rw[Hz d fuel h1 h2]
        cases hr:(wH E f).run fuel (wI E d fuel) args h .no with
        | bad=>rw[hr] at e;exact absurd e.symm (ho _ _)
        | fin res h' y=>
          rw[hr] at e h3
          obtain ⟨x,ts,h4,h5,h6⟩:=h3
          have:=Js (E:=E) ih (fn:=fn) (p:=none) h6 ho e
          rw[h5]
          rcases h4 with rfl | rfl<;>exact this
        | Z2 v res h' y=>
          rw[hr] at e h3
          obtain ⟨ts,h5,h6⟩:=h3
          have:=Js (E:=E) ih (fn:=fn) (p:=some v) h6 ho e
          rw[h5];exact this
     exact ⟨fun v h' e=>key _ (by simp) e,fun v h' e=>key _ (by simp) e⟩
theorem zh {d fuel:Nat} {f:FuncId} {args:List AV} {h h':au} {v:AV} (e:wI E d fuel (.fn f) args h= .ret v h'):ft E d fuel (.fn f) args h= .ret v h':=
 (Ft fuel d _ _ _).1 v h' e
end Go.Ab.Fa
end
section
namespace Go.Ab
structure aeF (P:Program) (f:FuncId) (e:Array Value→Sem Value):Prop where
 at':∃fn,P.funcs[f]? =some fn∧(fn.name== "runtime.NumGoroutine")=false∧fn.body.isNone=true∧Extern.findNext fn=none∧Extern.find fn=some e
section
open Fa
noncomputable def l3 {R:Type} (f:AV→AV→AV→R) (d:R) (l:List AV):R:=
 List.rec (motive:=fun _=>R) d (fun a tl _=>List.rec (motive:=fun _=>R) d (fun b tl _=>List.rec (motive:=fun _=>R) d (fun c tl _=>List.rec (motive:=fun _=>R) (f a b c) (fun _ _ _=>d) tl) tl) tl) l
noncomputable def l2 {R:Type} (f:AV→AV→R) (d:R) (l:List AV):R:=
 List.rec (motive:=fun _=>R) d (fun a tl _=>List.rec (motive:=fun _=>R) d (fun b tl _=>List.rec (motive:=fun _=>R) (f a b) (fun _ _ _=>d) tl) tl) l
noncomputable def n3 (f:Nat→Nat→Nat→Option AV):List AV→Option AV:=
 l3 (fun a b c=>mh (fun _ x=>mh (fun _ y=>mh (fun _ z=>jm (fun x=>jm (fun y=>jm (fun z=>f x y z) none z) none y) none x) none c) none b) none a) none
end
open Fa
end Go.Ab
end
section
namespace Go.Ab
open Go.Maps Go.WideElems Go.RowKit Go.Proofs
section
open Fa
noncomputable def l1 {R:Type} (f:AV→R) (d:R) (l:List AV):R:=List.rec (motive:=fun _=>R) d (fun a tl _=>List.rec (motive:=fun _=>R) (f a) (fun _ _ _=>d) tl) l
end
open Fa
theorem OK.later {E:Env} {φ:Ph} {h:au} {w w':World} (ok:OK E φ h w) (b:Below w.heap.size w w'):OK E φ h w'∧Fr φ h w φ h w':=by
 have hblk:∀j p m,h.get j=some p→φ j=some m→m.dq<w.heap.size:=fun j p m hj hm=>by
  have xX:=ok.live j p m hj hm
  rcases Nat.lt_or_ge m.dq w.heap.size with a | a
  · exact a
  · exfalso
    rw[Array.getElem?_eq_none a] at xX
    exact xX.absurd
 refine ⟨⟨ok.xz,ok.nx,ok.sM,fun i o l h1 h2=>?_,ok.inj⟩,⟨Ph.le_refl φ,fun _ _=>rfl,Nat.le_refl _,b.os,b.tape,b.output,b.size,fun c hc _=>b.block c hc,fun i o l h1 h2 h3=> .inr ⟨i,o,l,h1,h2,h3,rfl⟩⟩⟩
 rw[b.block _ (hblk i o l h1 h2)]
 exact ok.live i o l h1 h2
end Go.Ab
end
section
namespace Go.Ab
structure S' where
 g:Nat
 k:IntKind
 ns:List Nat
 t:TypeId
def S'.cells (x:S'):List AV:=x.ns.map fun n=>AV.int x.k (Int.ofNat n)
noncomputable def jQ (G:Nat):List S'→au
 | []=>⟨HT.nil,G,fun _=>none⟩
 | x::xs=>(jQ G xs).put x.g (some (.cells x.cells x.t true))
theorem Jt (i:Nat) (G:Nat):(au.mk HT.nil G fun _=>none).get i=none:=by
 by_cases hi:i<262144
 · rw[au.sN hi]
   rw[yr hi,vt,yq]
   simp only[HT.nil,xS]
 · rw[au.oH hi]
theorem vR (G:Nat):∀l,(jQ G l).nx=G
 | []=>rfl
 | _::xs=>vR G xs
theorem o6 {G:Nat}:∀{l:List S'} {i:Nat} {o:aR},(jQ G l).get i=some o→∃x∈l,x.g=i∧o= .cells x.cells x.t true
 | [],i,o,e=>by rw[jQ,Jt] at e;cases e
 | x::xs,i,o,e=>by
   rw[jQ] at e
   by_cases h:x.g=i
   · subst h
     rw[au.bF] at e
     exact ⟨x,by simp,rfl,(Option.some.inj e).symm⟩
   · rw[au.aY h] at e
     obtain ⟨y,hy,h1,h2⟩:=o6 e
     exact ⟨y,by simp [hy],h1,h2⟩
def Z_ (w:World) (x:S'):Prop:=∃C e fz,w.heap[x.g]? =some (.cells C e fz)∧C.toList=x.ns.map fun n=>Value.int x.k (Int.ofNat n)
def Vb (G:Nat):Ph:=fun i=>if i<G then some ⟨i,0,0⟩ else none
theorem OK.begin {E:Env} {w:World} {l:List S'} (hl:∀x∈l,x.g<E.G∧Z_ w x):OK E (Vb E.G) (jQ E.G l) w:=by
 refine ⟨fun i l' h=>?_,?_,fun g hg=>?_,fun i o l' h1 h2=>?_,fun i j o p l' m _ _ h3 h4 _ h5=>?_⟩
 · unfold Vb at h;rw[vR];split at h
   · assumption
   · cases h
 · rw[vR];exact Nat.le_refl _
 · unfold Vb;rw[if_pos hg]
 · obtain ⟨x,hx,rfl,rfl⟩:=o6 h1
   obtain ⟨hg,C,e,⟨lo,hi⟩,hw,hC⟩:=hl x hx
   unfold Vb at h2;rw[if_pos hg] at h2
   obtain rfl:=Option.some.inj h2
   refine ⟨C,e,lo,hi,hw,⟨?_,?_,(fun h=>by cases h),fun _ _ _=>rfl⟩,fun z=>by cases z⟩
   · have:C.size=x.ns.length:=by rw[←Array.length_toList,hC,List.length_map]
     simp [S'.cells,eB,this]
   · intro k y hk
     simp only[S'.cells,List.getElem?_map,Option.map_eq_some_iff] at hk
     obtain ⟨n,hn,rfl⟩:=hk
     refine ⟨.int x.k (Int.ofNat n),?_,.int _ _⟩
     rw[Nat.zero_add,←Array.getElem?_toList,hC,List.getElem?_map,hn];rfl
 · unfold Vb at h3 h4
   split at h3
   · split at h4
     · obtain rfl:=Option.some.inj h3
       obtain rfl:=Option.some.inj h4
       exact h5
     · cases h4
   · cases h3
noncomputable def uj (o:gY):Bool:=gY.rec (motive:=fun _=>Bool) (fun v _=>Fa.hX (fun b=>b) false v) (fun _ _=>false) (fun _ _=>false) o
theorem wM {o:gY} (h:uj o=true):∃h',o= .ret (.bool true) h':=by
 cases o with
 | ret v h'=>
   cases v with
   | bool b=>exact ⟨h',by rw[show b=true from h]⟩
   | _=>cases h
 | panic v h'=>cases h
 | fail _ _=>cases h
end Go.Ab
end
section
namespace Go.Ab
variable {E:Env}
noncomputable def o7 (E:Env) (call:aW) (fuel:Nat) (fn:Func) (p:Option AV) (s:St):gY:=match cn (fV E call fuel) s.ds p s.h with
 | none=> .fail "unwind" none
 | some (some v,h')=> .panic v h'
 | some (none,h')=>match iy E h' s.ts fn.results.toList with
   | some vs=> .ret (eW vs) h'
   | none=> .fail "results" none
noncomputable def uk (E:Env) (call:aW) (fuel:Nat) (f:FuncId) (args:List AV) (h:au):gY:=match E.P.funcs[f]? with
 | none=> .fail "no function" none
 | some fn=>match fn.body with
   | none=> .fail ("no body " ++fn.name) none
   | some b=>match kL E call fuel fn b args h .no with
     | .ok .normal s=>o7 E call fuel fn none s
     | .ok .ret s=>o7 E call fuel fn none s
     | .ok (.panic v) s=>o7 E call fuel fn (some v) s
     | .ok (.exit _) _=> .fail "exit" none
     | .fail why o=> .fail (why++ " in " ++fn.name) o
theorem nh (hE:iZ E) (fuel:Nat) {call:aW} (ih:fZ E call):(∀f args h v h',uk E call fuel f args h= .ret v h'→ju E f args h v h')∧(∀f args h v h',uk E call fuel f args h= .panic v h'→IZ E f args h v h'):=by
 have key:∀(f:FuncId) (args:List AV) (h:au) (out:gY),uk E call fuel f args h=out→(∀why q,out≠ .fail why q)→
  ∃fn c e s p,E.P.funcs[f]? =some fn∧fn.body=some c∧kL E call fuel fn c args h .no= .ok e s∧
   ((p=none∧(e= .normal∨e= .ret))∨∃v,p=some v∧e= .panic v)∧
   ((∃v h',out= .panic v h'∧cn (fV E call fuel) s.ds p s.h=some (some v,h'))∨
    ∃vs h',out= .ret (eW vs) h'∧cn (fV E call fuel) s.ds p s.h=some (none,h')∧iy E h' s.ts fn.results.toList=some vs):=by
  intro f args h out e dD
  unfold uk at e
  split at e
  · exact absurd e.symm (dD _ _)
  rename_i fn hf
  split at e
  · exact absurd e.symm (dD _ _)
  rename_i c hb
  have fin:∀(p:Option AV) (s:St),o7 E call fuel fn p s=out→
   ((∃v h',out= .panic v h'∧cn (fV E call fuel) s.ds p s.h=some (some v,h'))∨
    ∃vs h',out= .ret (eW vs) h'∧cn (fV E call fuel) s.ds p s.h=some (none,h')∧iy E h' s.ts fn.results.toList=some vs):=by
   intro p s hm
   unfold o7 at hm
   split at hm
   · exact absurd hm.symm (dD _ _)
   · rename_i v h' hu;exact .inl ⟨v,h',hm.symm,hu⟩
   · rename_i h' hu
     split at hm
     · rename_i vs hv;exact .inr ⟨vs,h',hm.symm,hu,hv⟩
     · exact absurd hm.symm (dD _ _)
  split at e
  · rename_i s eX;exact ⟨fn,c,_,s,none,hf,hb,eX,.inl ⟨rfl,.inl rfl⟩,fin none s e⟩
  · rename_i s eX;exact ⟨fn,c,_,s,none,hf,hb,eX,.inl ⟨rfl,.inr rfl⟩,fin none s e⟩
  · rename_i v s eX;exact ⟨fn,c,_,s,some v,hf,hb,eX,.inr ⟨v,rfl,rfl⟩,fin (some v) s e⟩
  · exact absurd e.symm (dD _ _)
  · exact absurd e.symm (dD _ _)
 have run:∀(f:FuncId) (fn:Func) (c:Code) (args:List AV) (h:au) (e:gR) (s:St) (p p':Option AV) (h':au),E.P.funcs[f]? =some fn→fn.body=some c→kL E call fuel fn c args h .no= .ok e s→
  ((p=none∧(e= .normal∨e= .ret))∨∃v,p=some v∧e= .panic v)→cn (fV E call fuel) s.ds p s.h=some (p',h')→
  ∀(φ:Ph) (w:World) (vs:List Value),OK E φ h w→LR φ args vs→∀cs,∃φ' w' m' tmps todo,OK E φ' h' w'∧Fr φ h w φ' h' w'∧LR φ' s.ts tmps.toList∧
   ((p'=none∧m'= .returning)∨∃v v',p'=some v∧VR φ' v v'∧m'= .panicking [{v:=v',recovered:=false}])∧
   Steps E.P (lone (Frame.enter E.P f vs.toArray .normal) cs w) (lone {(bare f .normal).atR {tmps,defers:=[]} todo with mode:=m'} cs w'):=by
  intro f fn c args h e s p p' h' hf hb eX hp hu φ w vs ok hl cs
  obtain ⟨φ1,w1,a1,e1,x1,x2,x3,x4,x5,x6⟩:=(ql hE ih hf hb eX ok hl (kind:= .normal) (K:=fun _=>cs) ⟨rfl,fun fr hk=>by simp [tryRecover,show fr.kind= .normal from hk]⟩).is
  have EK:cur (fun _=>cs) s.rc=cs:=by cases s.rc<;>rfl
  have NQ:cur (fun _=>cs) RC.no=cs:=rfl
  rw[EK] at x6
  rw[NQ] at x6
  have hm:∃todo m,((p=none∧m= .returning)∨∃v v',p=some v∧VR φ1 v v'∧m= .panicking [{v:=v',recovered:=false}])∧
   Steps E.P (lone (Frame.enter E.P f vs.toArray .normal) cs w) (lone {(bare f .normal).atR a1 todo with mode:=m} cs w1):=by
   rcases hp with ⟨rfl,rfl | rfl⟩ | ⟨v,rfl,rfl⟩
   · cases x1;exact ⟨[],.returning,.inl ⟨rfl,rfl⟩,Steps.trans x6 (.one (stepR_end rfl))⟩
   · cases x1;obtain ⟨todo,hs⟩:=x6;exact ⟨_,.returning,.inl ⟨rfl,rfl⟩,Steps.trans hs (.one (stepR_ret rfl))⟩
   · cases x1 with
     | panic _ v' hv=>obtain ⟨todo,hs⟩:=x6;exact ⟨todo,_,.inr ⟨v,v',rfl,hv,rfl⟩,hs⟩
  obtain ⟨todo,m,hmp,pU⟩:=hm
  obtain ⟨φ2,w2,m2,yN,f2,NP,hs2⟩:=iB hE ih s.ds hu (fr:={(bare f .normal).atR a1 todo with mode:=m}) (cs:=cs) x3 x2.ds (by
   rcases hmp with ⟨e,em⟩ | ⟨v,v',e,hv,em⟩
   · exact .inl ⟨e,em⟩
   · exact .inr ⟨v,v',e,hv,em⟩)
  exact ⟨φ2,w2,m2,a1.tmps,todo,yN,x4.trans f2,x2.ts.mono f2.ext,NP,Steps.trans pU hs2⟩
 refine ⟨fun f args h v h' e=>?_,fun f args h v h' e=>?_⟩
 · obtain ⟨fn,c,e1,s,p,hf,hb,eX,hp,nV⟩:=key f args h _ e (by simp)
   rcases nV with ⟨v1,h1,he,_⟩ | ⟨vs1,h1,he,hu,AT⟩
   · simp at he
   · simp at he;obtain ⟨rfl,rfl⟩:=he
     intro φ w vs ok hl
     refine ⟨enters hE hf hb _ w,fun cs=>?_⟩
     obtain ⟨φ',w',m',tmps,todo,pV,fr,ht,hm,hs⟩:=run f fn c args h e1 s p none h' hf hb eX hp hu φ w vs ok hl cs
     obtain ⟨v',hv,eR⟩:=qk pV ht AT
     rcases hm with ⟨_,rfl⟩ | ⟨v,v'',e,_⟩
     · exact ⟨φ',w',v',_,hv,pV,fr,hs,rfl,rfl,rfl,rfl,fn,hf,eR⟩
     · simp at e
 · obtain ⟨fn,c,e1,s,p,hf,hb,eX,hp,nV⟩:=key f args h _ e (by simp)
   rcases nV with ⟨v1,h1,he,hu⟩ | ⟨vs1,h1,he,_⟩
   · simp at he;obtain ⟨rfl,rfl⟩:=he
     intro φ w vs ok hl
     refine ⟨enters hE hf hb _ w,fun cs=>?_⟩
     obtain ⟨φ',w',m',tmps,todo,pV,fr,ht,hm,hs⟩:=run f fn c args h e1 s p (some v) h' hf hb eX hp hu φ w vs ok hl cs
     rcases hm with ⟨e,_⟩ | ⟨v2,v',e,hv,rfl⟩
     · simp at e
     · simp at e;subst e
       exact ⟨φ',w',v',_,hv,pV,fr,hs,rfl,rfl,rfl,fn,hf⟩
   · simp at he
namespace Fa
abbrev Df:=FuncId→List AV→au→Option (AV×au)
def Dg (E:Env) (M:Df):Prop:=∀f args h v h',M f args h=some (v,h')→ju E f args h v h'
noncomputable def Fu (nx:Nat) (l:List (Nat×aR)):au:=List.rec (motive:=fun _=>au) ⟨HT.nil,nx,fun _=>none⟩ (fun x _ h=>h.put x.1 (some x.2)) l
theorem BD {nx:Nat}:∀{l:List (Nat×aR)} {i:Nat} {o:aR},(Fu nx l).get i=some o→(i,o)∈l
 | [],i,o,e=>by
   have e:(au.mk HT.nil nx fun _=>none).get i=some o:=e
   by_cases hi:i<262144
   · rw[au.sN hi] at e
     have e:(hp i).get HT.nil=some o:=e
     rw[yr hi,vt,yq] at e
     simp only[HT.nil,xS] at e
     cases e
   · rw[au.oH hi] at e;cases e
 | x::xs,i,o,e=>by
   have e:((Fu nx xs).put x.1 (some x.2)).get i=some o:=e
   by_cases h:x.1=i
   · subst h
     rw[au.bF] at e
     cases e;simp
   · rw[au.aY h] at e
     exact List.mem_cons_of_mem _ (BD e)
structure Ent where
 f:FuncId
 args:List AV
 nx:Nat
 K:List (Nat×aR)
 v:AV
 nx':Nat
 K':List (Nat×aR)
end Fa
end Go.Ab
end
section
namespace Go.Ab
variable {E:Env}
theorem LR.um {φ φ':Ph} {xs:List AV} {ys zs:List Value} (h:LR φ xs ys) (h':LR φ' xs zs) (ih:∀(i:Nat) (x:AV) (y z:Value),xs[i]? =some x→ys[i]? =some y→zs[i]? =some z→VR φ x z):LR φ xs zs:=by
 refine ⟨h'.1,fun i x z hx hz=>?_⟩
 have hi:i<xs.length:=(List.getElem?_eq_some_iff.1 hx).1
 have:i<ys.length:=by rw[←h.1];exact hi
 exact ih i x ys[i] z hx (by simp [this]) hz
theorem VR.back {φ φ':Ph} (hle:φ.le φ') {x:AV} {y:Value} (h:VR φ x y):∀{z:Value},VR φ' x z→VR φ x z:=by
 induction h with
 | bool b=>intro z h;cases h;exact .bool b
 | int k n=>intro z h;cases h;exact .int k n
 | str s=>
   intro z h
   generalize he:AV.str s.data.toList=q at h
   cases h with
   | str s'=>exact .str s'
   | _=>cases he
 | eU=>intro z h;cases h;exact .eU
 | ptr o h=>intro z h';cases h' with | ptr _ h'=>rw[hle _ _ h] at h';cases h';exact .ptr o h
 | aI=>intro z h;cases h;exact .aI
 | slice o len cap op h=>intro z h';cases h' with | slice _ _ _ _ h'=>rw[hle _ _ h] at h';cases h';exact .slice o len cap op h
 | dG a cap=>intro z h;cases h;exact .dG _ _
 | dc=>intro z h;cases h;exact .dc
 | map h=>intro z h';cases h' with | map h'=>rw[hle _ _ h] at h';cases h';exact .map h
 | func f a b a' b' la lb ha hb iha ihb=>
   intro z h
   obtain ⟨c,d,rfl,hc,hd⟩:=VR.tM h
   have h1:LR φ a c.toList:=LR.um (ys:=a'.toList) ⟨by simpa using la,fun i x y p q=>ha i x y p (by simpa using q)⟩ hc fun i x y z p q r=>iha i x y p (by simpa using q) (hc.2 i x z p r)
   have h2:LR φ b d.toList:=LR.um (ys:=b'.toList) ⟨by simpa using lb,fun i x y p q=>hb i x y p (by simpa using q)⟩ hd fun i x y z p q r=>ihb i x y p (by simpa using q) (hd.2 i x z p r)
   have:=VR.M9 f h1 h2
   simpa using this
 | nilFunc=>intro z h;cases h;exact .nilFunc
 | yield h=>intro z h';cases h' with | yield h'=>rw[hle _ _ h] at h';cases h';exact .yield h
 | iface t v v' h ih=>intro z h';cases h' with | iface _ _ _ h'=>exact .iface t v _ (ih h')
 | nilIface=>intro z h;cases h;exact .nilIface
 | agg cs gz hl h ih=>
   intro z h'
   obtain ⟨d,rfl,hd⟩:=VR.iz h'
   have h1:LR φ cs d.toList:=LR.um (ys:=gz.toList) ⟨by simpa using hl,fun i x y p q=>h i x y p (by simpa using q)⟩ hd fun i x y z p q r=>ih i x y p (by simpa using q) (hd.2 i x z p r)
   have:=VR.Kq h1
   simpa using this
 | any v h=>intro z h';cases h' with | any _ h'=>exact .any _ h'
 | tuple cs gz hl h ih=>
   intro z h'
   obtain ⟨d,rfl,hd⟩:=VR.Bg h'
   have h1:LR φ cs d.toList:=LR.um (ys:=gz.toList) ⟨by simpa using hl,fun i x y p q=>h i x y p (by simpa using q)⟩ hd fun i x y z p q r=>ih i x y p (by simpa using q) (hd.2 i x z p r)
   have:=VR.tuple' h1
   simpa using this
theorem LR.back {φ φ':Ph} (hle:φ.le φ') {xs:List AV} {ys zs:List Value} (h:LR φ xs ys) (h':LR φ' xs zs):LR φ xs zs:=
 LR.um h h' fun i x y z p q r=>(h.2 i x y p q).back hle (h'.2 i x z p r)
theorem OR.back {φ φ':Ph} (hle:φ.le φ') {o:aR} {l:Loc} {x z:Option Obj} (h:OR E φ o l x) (h':OR E φ' o l z):OR E φ o l z:=by
 cases o with
 | cells cs e ro=>
   obtain ⟨C,e1,lo,hi,_,hc⟩:=h
   obtain ⟨D,e2,GY,Cq,hz,hd⟩:=h'
   refine ⟨D,e2,GY,Cq,hz,⟨hd.size,fun k x hk=>?_,hd.free,hd.zero⟩,hd.shape⟩
   obtain ⟨y,_,hy⟩:=hc.val k x hk
   obtain ⟨y',h1,Nq⟩:=hd.val k x hk
   exact ⟨y',h1,hy.back hle Nq⟩
 | map es clock=>
   obtain ⟨_,es1,_,hl,hv⟩:=h
   obtain ⟨h0,es2,hz,RL,hv'⟩:=h'
   refine ⟨h0,es2,hz,RL,fun i x y hx hy=>?_⟩
   have hi:i<es.length:=(List.getElem?_eq_some_iff.1 hx).1
   have:i<es1.toList.length:=by rw[←hl];exact hi
   have a:=hv i x _ hx (List.getElem?_eq_getElem this)
   have b:=hv' i x y hx hy
   exact ⟨a.key.back hle b.key,a.val.back hle b.val,b.born⟩
 | sj s pos=>exact h'
 | ym m since seen oD=>
   cases m with
   | none=>exact h'
   | some m=>
     obtain ⟨_,lm,hm,_⟩:=h
     obtain ⟨h0,lm',WO,hz⟩:=h'
     rw[hle _ _ hm] at WO;cases WO
     exact ⟨h0,lm,hm,hz⟩
 | loop st pd ts ps as_ bd dn=>
   obtain ⟨_,r,_,hr⟩:=h
   obtain ⟨h0,r',hz,Ed⟩:=h'
   obtain ⟨ld,hd,_⟩:=hr.defers
   obtain ⟨ld',GG,GF⟩:=Ed.defers
   rw[hle _ _ hd] at GG;cases GG
   exact ⟨h0,r',hz,Ed.state,Ed.pending,hr.tmps.back hle Ed.tmps,Ed.params,Ed.assign,Ed.body,⟨ld,hd,GF⟩,Ed.fn⟩
 | tJ=>exact h'
def Has (h h':au):Prop:=∀i o,h.get i=some o→h'.get i=some o
theorem Has.refl (h:au):Has h h:=fun _ _ e=>e
theorem Has.trans {a b c:au} (x:Has a b) (y:Has b c):Has a c:=fun i o e=>y i o (x i o e)
theorem OK.forget {φ φ':Ph} {h h':au} {w w':World} (ok:OK E φ h w) (hle:φ.le φ') (pV:OK E φ' h' w') (hs:Has h h'):OK E φ h w' where
 xz:=ok.xz
 nx:=ok.nx
 sM:=ok.sM
 live i o l a b:=(ok.live i o l a b).back hle (pV.live i o l (hs i o a) (hle _ _ b))
 inj:=ok.inj
theorem Fr.forget {φ φ':Ph} {h h':au} {w w':World} (f:Fr φ h w φ' h' w'):Fr φ h w φ h w' where
 ext:=Ph.le_refl φ
 old _ _:=rfl
 nx:=Nat.le_refl _
 os:=f.os
 tape:=f.tape
 output:=f.output
 size:=f.size
 xA:=f.xA
 own i o l a b c:= .inr ⟨i,o,l,a,b,c,rfl⟩
def AV.plain:Nat→AV→Bool
 | 0,_=>false
 | n+1,x=>match x with
   | .bool _ | .int .. | .str _ | .eU | .aI | .dc | .nilFunc | .nilIface=>true
   | .iface _ v=>AV.plain n v
   | .agg cs=>cs.all (AV.plain n)
   | .tuple cs=>cs.all (AV.plain n)
   | _=>false
theorem VR.plain {φ φ':Ph}:∀(n:Nat) {x:AV} (_:AV.plain n x=true) {y:Value},VR φ' x y→VR φ x y
 | 0,_,h,_,_=>by cases h
 | n+1,x,h,y,hv=>by
   have ih:= @VR.plain φ φ' n
   cases hv with
   | bool b=>exact .bool b
   | int k m=>exact .int k m
   | str s=>exact .str s
   | eU=>exact .eU
   | aI=>exact .aI
   | dc=>exact .dc
   | nilFunc=>exact .nilFunc
   | nilIface=>exact .nilIface
   | iface t v v' h'=>exact .iface t v v' (ih (by simpa [AV.plain] using h) h')
   | agg cs gz hl hc=>
     refine .agg cs gz hl fun i x y a b=>ih ?_ (hc i x y a b)
     simp only[AV.plain,List.all_eq_true] at h
     exact h x (List.mem_of_getElem? a)
   | tuple cs gz hl hc=>
     refine .tuple cs gz hl fun i x y a b=>ih ?_ (hc i x y a b)
     simp only[AV.plain,List.all_eq_true] at h
     exact h x (List.mem_of_getElem? a)
   | _=>cases h
theorem ju.closed {f:FuncId} {args:List AV} {h':au} {v:AV} (r:ju E f args (Fa.Fu E.G []) v h') (ha:args.all (AV.plain 20)=true) (hv:AV.plain 20 v=true) (h:au):ju E f args h v h:=fun φ w vs ok hl=>by
 let φ0:Ph:=fun i=>if i<E.G then φ i else none
 have hle:φ0.le φ:=fun i l e=>by
  simp only[φ0] at e
  split at e
  · exact e
  · cases e
 have OG:∀{i o},(Fa.Fu E.G []).get i=some o→False:=fun e=>by cases Fa.BD e
 have ok0:OK E φ0 (Fa.Fu E.G []) w:=by
  refine ⟨fun i l e=>?_,Nat.le_refl _,fun g hg=>?_,fun i o l e=>(OG e).elim,fun i j o p l m e=>(OG e).elim⟩
  · simp only[φ0] at e
    split at e
    · assumption
    · cases e
  · simp only[φ0,hg,if_true];exact ok.sM g hg
 have V6:LR φ0 args vs:=⟨hl.1,fun i x y a b=>(hl.2 i x y a b).plain 20 (List.all_eq_true.1 ha x (List.mem_of_getElem? a))⟩
 obtain ⟨h1,h2⟩:=r φ0 w vs ok0 V6
 refine ⟨h1,fun cs=>?_⟩
 obtain ⟨φ',w',v',fr,x1,x2,x3,x4⟩:=h2 cs
 have Vc:∀b,b<w.heap.size→w'.heap[b]? =w.heap[b]? :=fun b hb=>x3.xA b hb fun i o l e=>(OG e).elim
 refine ⟨φ,w',v',fr,x1.plain 20 hv,⟨ok.xz,ok.nx,ok.sM,fun i o l a b=>?_,ok.inj⟩,⟨Ph.le_refl φ,fun _ _=>rfl,Nat.le_refl _,x3.os,x3.tape,x3.output,x3.size,fun b hb _=>Vc b hb,fun i o l a b c=> .inr ⟨i,o,l,a,b,c,rfl⟩⟩,x4⟩
 have hr:=ok.live i o l a b
 by_cases hb:l.dq<w.heap.size
 · rw[Vc _ hb];exact hr
 · rw[Array.getElem?_eq_none (by omega)] at hr
   exact hr.absurd.elim
end Go.Ab
end
