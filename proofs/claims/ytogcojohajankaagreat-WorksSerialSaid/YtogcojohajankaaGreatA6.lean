import Derived.Laws.Externs
import Derived.Lib.Bytealg
import Derived.Maps.Own
import Derived.Maps.Range
import Derived.Sort.KeysCollected
import GoSem.ClaimChange
import Derived.OpenShut
import Derived.FnData
import Derived.ChangeArms
import Derived.Test.YtogcojohajankaaGreatA5
import Derived.Test.YtogcojohajankaaGreatA3
import Derived.Test.YtogcojohajankaaGreatA1
import Derived.Test.YtogcojohajankaaGreatA4
set_option linter.unusedVariables false
set_option linter.unusedSimpArgs false
section
namespace Go.Ab.Fa
variable {E:Env} {F:RF} {n:Nat}
theorem kg {ts:List AV} {x:Operand} {a:AV} (h:fJ E ts x=some a):hT E ts [x]=some [a]:=by simp [hT,fE,h]
theorem IN {ts:List AV} {x y:Operand} {a b:AV} (h:fJ E ts x=some a) (h':fJ E ts y=some b):hT E ts [x,y]=some [a,b]:=by simp [hT,fE,h,h']
theorem aaW (v:AV):ahe v=qF v:=by
 cases v with
 | str s=>show some (j7 s)=some s.length;rw[g_]
 | _=>rfl
theorem TI {h:aw} {size m:Nat} {v:AV} {l:List AV} (e:Wh h size m v=some l):fF h size m v=some l:=by
 cases v with
 | aD=>
   obtain ⟨h1,e1⟩:=hF (show bc (Nat.beq m 0) (some []) none=some l from e)
   simp only[fF];rw[if_pos (o_ h1)];exact e1
 | slice i o len c b=>
   obtain ⟨h1,e1⟩:=hF (show bc (Nat.ble m len) (ob none (fun obj=>BZ (fun cs _ _=>bc (Nat.ble (o+m*size) (j7 cs)) (some (vB (vA cs o) (m*size))) none) none obj) (h.get i)) none=some l from e)
   obtain ⟨obj,h2,e2⟩:=iD e1
   obtain ⟨cs,el,ro,rfl,e3⟩:=tu e2
   obtain ⟨h3,e4⟩:=hF e3
   have h1:=gU h1
   have h3:=gU h3
   rw[g_] at h3
   rw[rZ,rY] at e4
   simp only[fF,h2]
   rw[if_pos h1]
   by_cases h0:m=0
   · subst h0
     rw[if_pos rfl]
     rw[Nat.zero_mul,List.take_zero] at e4
     exact e4
   · rw[if_neg h0,if_pos h3];exact e4
 | _=>exact e
theorem WJ {h:aw} {obj:aH} {f:aw→AV×aw} {p:AV×aw} (e:ob none (fun h'=>some (f h')) (h.new obj)=some p):∃h',h.new obj=some h'∧p=f h':=by
 obtain ⟨h',h1,e1⟩:=iD e
 exact ⟨h',h1,(Option.some.inj e1).symm⟩
theorem aaX {argTypes:Array TypeId} {sT xT elem:TypeId} {xd:TypeDesc} {size bytes:Nat} {z:AV} (h1:argTypes[0]? =some sT) (h2:argTypes[1]? =some xT) (h3:E.P.underlying sT=some (.slice elem)) (h4:E.P.underlying xT=some xd)
 (h5:oZ xd=false) (h6:b7 E elem=some size) (h7:jT E elem=some bytes) (h8:g5 E elem=some z) (h9:z.cells.length=size)
 {h:aw} {s x:AV} {p:AV×aw} (e:ahf elem size bytes h s x=some p):di E h argTypes s x=some p:=by
 obtain ⟨m,a1,e1⟩:=iD e
 rw[aaW] at a1
 obtain ⟨new,a2,e2⟩:=iD e1
 have a2:=TI a2
 obtain ⟨a3,e3⟩:=hF e2
 obtain ⟨a4,e4⟩:=hF e3
 rw[ti,MZ] at a3
 have a4:=o_ a4
 rw[g_] at a4
 unfold di
 simp only[h1,h2,h3,h4,h5,h6,h7,h8,a1,a2]
 rw[if_neg (by simp)]
 rw[if_pos ⟨h9,a3,a4⟩]
 rcases qe e4 with ⟨rfl,e5⟩ | ⟨i,o,len,cap,op,rfl,e5⟩
 · cases hm:Nat.beq m 0 with
   | true=>
     rw[hm,kD] at e5
     simp only;rw[if_pos (o_ hm)];exact e5
   | false=>
     rw[hm,fe] at e5
     obtain ⟨a5,e6⟩:=hF e5
     have a5:(4*m+4096)*(bytes+1)≤1099511627776:=gU a5
     obtain ⟨h',a6,rfl⟩:=WJ e6
     simp only
     rw[if_neg (by intro ee;rw[ee] at hm;cases hm),if_pos a5]
     simp only[a6]
 · obtain ⟨obj,a5,e6⟩:=iD e5
   obtain ⟨cs,el,ro,rfl,e7⟩:=tu e6
   obtain ⟨a6,e8⟩:=tq e7
   subst a6
   simp only[a5]
   cases hc:Nat.ble (Nat.add len m) cap with
   | true=>
     rw[hc,kD] at e8
     have hc:len+m≤cap:=gU hc
     obtain ⟨a7,e9⟩:=hF e8
     have a7:o+(len+m)*size≤j7 cs:=gU a7
     rw[g_] at a7
     rw[if_pos hc,if_pos a7,←Option.some.inj e9,Kj];rfl
   | false=>
     rw[hc,fe] at e8
     have hc:cap<len+m:=lS hc
     obtain ⟨a7,e9⟩:=hF e8
     have a7:(4*(len+m)+4096)*(bytes+1)≤1099511627776:=gU a7
     obtain ⟨a8,e10⟩:=hF e9
     have a8:o+len*size≤j7 cs:=gU a8
     rw[g_] at a8
     rw[if_neg (by omega)]
     cases op with
     | true=>
       rw[kD] at e10
       obtain ⟨a9,e11⟩:=hF e10
       obtain ⟨a10,e12⟩:=hF e11
       have a9:=o_ a9
       have a10:o+cap*size=j7 cs:=o_ a10
       rw[g_] at a10
       obtain ⟨h',a11,rfl⟩:=WJ e12
       rw[pB,rZ,rY] at a11
       rw[if_pos ⟨a7,a8,fun _=>⟨a9,a10⟩⟩]
       rw[if_pos rfl]
       have aen:(h.put i none).new (.cells ((cs.drop o).take (len*size)++new) elem false)=some h':=a11
       simp only[aen];rfl
     | false=>
       rw[fe] at e10
       obtain ⟨h',a11,rfl⟩:=WJ e10
       rw[pB,rZ,rY] at a11
       rw[if_pos ⟨a7,a8,fun hh=>by cases hh⟩]
       rw[if_neg (by simp)]
       have aen:h.new (.cells ((cs.drop o).take (len*size)++new) elem false)=some h':=a11
       simp only[aen];rfl
theorem mX {b:Builtin} (h1:b≠ .len) (h2:b≠ .cap) (h3:b≠ .max) (h4:b≠ .min) (a:Array Operand) (t:Array TypeId):vG E (.call ⟨.builtin b,a,t⟩):=by
 cases b<;>first | exact absurd rfl h1 | exact absurd rfl h2 | exact absurd rfl h3 | exact absurd rfl h4 | exact ⟨fun _=>rfl,fun _ _=>rfl,fun _=>rfl⟩
theorem TJ (a:Array Operand) (t:Array TypeId):h_ E F n (.call ⟨.builtin .append,a,t⟩) (match a.toList with
 | [s,x]=>wO E F n s (fun gs=>wO E F n x (fun gx=>Wi E t gs gx) .bad) .bad
 | _=> .bad):=by
 have nn:vG E (.call ⟨.builtin .append,a,t⟩):=mX (by simp) (by simp) (by simp) (by simp) a t
 generalize hl:a.toList=l
 match l with
 | []=>trivial
 | [_]=>trivial
 | _::_::_::_=>trivial
 | [s,x]=>
   simp only
   rcases ch E F n s (fun gs=>wO E F n x (fun gx=>Wi E t gs gx) .bad) (.bad:Kd F.T) with h | ⟨gs,h,hs⟩<;>rw[h]
   · trivial
   rcases ch E F n x (fun gx=>Wi E t gs gx) (.bad:Kd F.T) with h | ⟨gx,h,hx⟩<;>rw[h]
   · trivial
   unfold Wi
   simp only[iR,Array.getElem?_toList,jX,qh,Wu,B6]
   have fin:∀(f:F.T→aw→Option (AV×aw)),(∀r h p,f r h=some p→di E h t (gs r) (gx r)=some p)→h_ E F n (.call ⟨.builtin .append,a,t⟩) (.wr f):=by
    intro f hf
    refine ⟨nn,fun call r h rc o p ho e=>?_⟩
    simp only[dL,ho,hl,IN (hs r) (hx r),hf r h p e]
   cases h1:t[0]? with
   | none=>trivial
   | some sT=>cases h2:t[1]? with
     | none=>trivial
     | some xT=>
       simp only
       cases h3:E.P.underlying sT with
       | none=>trivial
       | some sd=>cases h4:E.P.underlying xT with
         | none=>cases sd<;>trivial
         | some xd=>cases sd with
           | slice elem=>
             simp only
             cases h5:oZ xd with
             | true=>
               rw[if_pos rfl]
               apply fin
               intro r h p e
               unfold di
               simp only[h1,h2,h3,h4,h5]
               rw[if_pos trivial];exact e
             | false=>
               rw[if_neg (by simp)]
               cases h6:b7 E elem with
               | none=>trivial
               | some size=>cases h7:jT E elem with
                 | none=>trivial
                 | some bytes=>cases h8:g5 E elem with
                   | none=>trivial
                   | some z=>
                     simp only
                     by_cases h9:z.cells.length=size
                     · rw[if_pos h9]
                       exact fin _ fun r h p e=>aaX h1 h2 h3 h4 h5 h6 h7 h8 h9 e
                     · rw[if_neg h9];trivial
           | _=>trivial
theorem RV (a:Array Operand) (t:Array TypeId):h_ E F n (.call ⟨.builtin .copy,a,t⟩) (match a.toList with
 | [s,x]=>wO E F n s (fun gs=>wO E F n x (fun gx=> .wr fun r h=>uv E h t (gs r) (gx r)) .bad) .bad
 | _=> .bad):=by
 have nn:vG E (.call ⟨.builtin .copy,a,t⟩):=mX (by simp) (by simp) (by simp) (by simp) a t
 generalize hl:a.toList=l
 match l with
 | []=>trivial
 | [_]=>trivial
 | _::_::_::_=>trivial
 | [s,x]=>
   simp only
   rcases ch E F n s (fun gs=>wO E F n x (fun gx=>(.wr fun r h=>uv E h t (gs r) (gx r):Kd F.T)) .bad) (.bad:Kd F.T) with h | ⟨gs,h,hs⟩<;>rw[h]
   · trivial
   rcases ch E F n x (fun gx=>(.wr fun r h=>uv E h t (gs r) (gx r):Kd F.T)) (.bad:Kd F.T) with h | ⟨gx,h,hx⟩<;>rw[h]
   · trivial
   refine ⟨nn,fun call r h rc o p ho e=>?_⟩
   simp only[dL,ho,hl,IN (hs r) (hx r),e]
theorem PH (a:Array Operand) (t:Array TypeId):h_ E F n (.call ⟨.builtin .recover,a,t⟩) (.xw fun _ _ h rc=>match rc with
 | .j5 x=> .uw x
 | .L4 _=> .fail "" none
 | _=> .val .nilIface h):=by
 refine ⟨mX (by simp) (by simp) (by simp) (by simp) a t,fun fc call _ r h rc o ho=>?_⟩
 simp only[dL,ho]
 cases rc<;>first | trivial | rfl
theorem aeo (a:Array Operand) (t:Array TypeId):h_ E F n (.call ⟨.builtin .len,a,t⟩) (match j8 t.toList 0,a.toList with
 | some t,[x]=>wO E F n x (fun g=>match lx E.P t with
   | some .string=> .iJ fun r=>tg (fun s=>some (.int .i64 (Int.ofNat (j7 s)))) none (g r)
   | some (.array m _)=> .iJ fun _=>some (.int .i64 (Int.ofNat m))
   | some (.slice _)=> .iJ fun r=>kQ (some (.int .i64 (Int.ofNat 0))) (fun _ _ m _ _=>some (.int .i64 (Int.ofNat m))) (vZ (some (.int .i64 (Int.ofNat 0))) none (g r)) (g r)
   | some (.map _ _)=> .red fun r h=>Ry h (g r)
   | _=> .bad) .bad
 | _,_=> .bad):=by
 rw[iR,Array.getElem?_toList]
 cases ht:t[0]? with
 | none=>trivial
 | some tt=>
   generalize hl:a.toList=l
   match l with
   | []=>trivial
   | _::_::_=>trivial
   | [x]=>
     simp only[jX]
     rcases ch E F n x (fun g=>match E.P.underlying tt with
      | some .string=>(.iJ fun r=>tg (fun s=>some (.int .i64 (Int.ofNat (j7 s)))) none (g r):Kd F.T)
      | some (.array m _)=> .iJ fun _=>some (.int .i64 (Int.ofNat m))
      | some (.slice _)=> .iJ fun r=>kQ (some (.int .i64 (Int.ofNat 0))) (fun _ _ m _ _=>some (.int .i64 (Int.ofNat m))) (vZ (some (.int .i64 (Int.ofNat 0))) none (g r)) (g r)
      | some (.map _ _)=> .red fun r h=>Ry h (g r)
      | _=> .bad) .bad with h | ⟨g,h,hg⟩<;>rw[h]
     · trivial
     cases hu:E.P.underlying tt with
     | none=>trivial
     | some d=>cases d with
       | string=>
         intro r v e
         obtain ⟨s,e1,e2⟩:=qd e
         simp only[bx,ht,hl,kg (hg r),hu,e1]
         rw[←e2,g_];rfl
       | array m el=>
         intro r v e
         simp only[bx,ht,hl,kg (hg r),hu]
         exact e
       | slice el=>
         intro r v e
         rcases MY e with ⟨e1,e2⟩ | ⟨i,o,l,c,b,e1,e2⟩ | ⟨e1,e2⟩
         · simp only[bx,ht,hl,kg (hg r),hu,e1];exact e2
         · simp only[bx,ht,hl,kg (hg r),hu,e1];exact e2
         · simp only[bx,ht,hl,kg (hg r),hu,e1];exact e2
       | map key el=>
         intro r h v e
         have e:Ry h (g r)=some v:=e
         generalize hm:g r=m at e
         cases m with
         | eY=>exact .inl (by simp only[bx,ht,hl,kg (hg r),hu,hm];exact e)
         | map i=>
           refine .inr ⟨by simp only[bx,ht,hl,kg (hg r),hu,hm],?_⟩
           obtain ⟨o,h3,h4⟩:=iD (show ob none (fun o=>aaC (fun es=>some (AV.int .i64 (Int.ofNat (j7 es)))) none o) (h.get i)=some v from e)
           cases o with
           | map es c=>
             have h4:some (AV.int .i64 (Int.ofNat (j7 es)))=some v:=h4
             simp only[fb,ht,hl,kg (hg r),hu,hm,h3]
             rw[←h4,g_];rfl
           | _=>cases h4
         | _=>cases e
       | _=>trivial
theorem aep (a:Array Operand) (t:Array TypeId):h_ E F n (.call ⟨.builtin .cap,a,t⟩) (match j8 t.toList 0,a.toList with
 | some t,[x]=>wO E F n x (fun g=>match lx E.P t with
   | some (.slice _)=> .iJ fun r=>kQ (some (.int .i64 (Int.ofNat 0))) (fun _ _ _ c b=>bc b none (some (.int .i64 (Int.ofNat c)))) none (g r)
   | _=> .bad) .bad
 | _,_=> .bad):=by
 rw[iR,Array.getElem?_toList]
 cases ht:t[0]? with
 | none=>trivial
 | some tt=>
   generalize hl:a.toList=l
   match l with
   | []=>trivial
   | _::_::_=>trivial
   | [x]=>
     simp only[jX]
     rcases ch E F n x (fun g=>match E.P.underlying tt with
      | some (.slice _)=>(.iJ fun r=>kQ (some (.int .i64 (Int.ofNat 0))) (fun _ _ _ c b=>bc b none (some (.int .i64 (Int.ofNat c)))) none (g r):Kd F.T)
      | _=> .bad) .bad with h | ⟨g,h,hg⟩<;>rw[h]
     · trivial
     cases hu:E.P.underlying tt with
     | none=>trivial
     | some d=>cases d with
       | slice el=>
         intro r v e
         rcases qe e with ⟨e1,e2⟩ | ⟨i,o,l,c,b,e1,e2⟩
         · simp only[bx,ht,hl,kg (hg r),hu,e1];exact e2
         · obtain ⟨rfl,e3⟩:=tq e2
           simp only[bx,ht,hl,kg (hg r),hu,e1];exact e3
       | _=>trivial
theorem TL (f:FuncId) (a:Array Operand) (t:Array TypeId):h_ E F n (.call ⟨.value (.func f),a,t⟩) (wL E F n a.toList (fun gs=>match E.n9 f with
 | some e=> .iJ fun r=>e (gs r)
 | none=>match E.jS f with
   | some g=> .wr fun r h=>g (gs r) h
   | none=> .call (.fn f) gs) .bad):=by
 rcases xa E F n a.toList (fun gs=>match E.n9 f with
  | some e=>(.iJ fun r=>e (gs r):Kd F.T)
  | none=>match E.jS f with
    | some g=> .wr fun r h=>g (gs r) h
    | none=> .call (.fn f) gs) .bad with h | ⟨gs,h,hg⟩<;>rw[h]
 · trivial
 cases hp:E.n9 f with
 | some e=>
   intro r v h
   simp only[bx,hp,hg];exact h
 | none=>
   have nn:vG E (.call ⟨.value (.func f),a,t⟩):=⟨fun _=>by simp only[bx,hp],fun _ _=>rfl,fun _=>rfl⟩
   have hc:∀r,callee E (gn F n r) ⟨.value (.func f),a,t⟩=some (.fn f,gs r):=by
    intro r
    simp only[callee,hg,fJ]
    simp
   cases hs:E.jS f with
   | some g=>
     refine ⟨nn,fun call r h rc o p ho e=>?_⟩
     have e':g (gs r) h=some p:=e
     simp only[dL,ho,hc,lp,hs,e']
   | none=>
     refine ⟨nn,fun call r h rc o ho=>?_⟩
     simp only[dL,ho,hc,lp,hs]
     cases call (.fn f) (gs r) h<;>rfl
theorem Ff {a b:ko} (h1:∀v h',a= .ret v h'→b= .ret v h') (h2:∀v h',a= .panic v h'→b= .panic v h'):ELe (oB a) (oB b):=by
 cases a with
 | ret v h=>rw[h1 v h rfl];rfl
 | panic v h=>rw[h2 v h rfl];rfl
 | fail _ _=>trivial
theorem yK (x:Operand) (hx:∀f,x≠ .func f) (a:Array Operand) (t:Array TypeId):h_ E F n (.call ⟨.value x,a,t⟩) (wO E F n x (fun gf=>wL E F n a.toList (fun gs=> .xw fun call r h _=>Rv
 (fun g first captured=>ob (oB (call (.fn g) (mN first (mN (gs r) captured)) h)) (fun sp=>ob (.fail "" none) (fun p=> .val p.1 p.2) (sp (mN first (mN (gs r) captured)) h)) (E.jS g))
 (fun l=>oB (call (.CJ l) (gs r) h)) (.fail "" none) (gf r)) .bad) .bad):=by
 have nn:vG E (.call ⟨.value x,a,t⟩):=by
  cases x with
  | func f=>exact absurd rfl (hx f)
  | _=>exact ⟨fun _=>rfl,fun _ _=>rfl,fun _=>rfl⟩
 let K:(F.T→AV)→(F.T→List AV)→Kd F.T:=fun gf gs=> .xw fun call r h _=>Rv
  (fun g first captured=>ob (oB (call (.fn g) (mN first (mN (gs r) captured)) h)) (fun sp=>ob (.fail "" none) (fun p=> .val p.1 p.2) (sp (mN first (mN (gs r) captured)) h)) (E.jS g))
  (fun l=>oB (call (.CJ l) (gs r) h)) (.fail "" none) (gf r)
 show h_ E F n _ (wO E F n x (fun gf=>wL E F n a.toList (fun gs=>K gf gs) .bad) .bad)
 rcases ch E F n x (fun gf=>wL E F n a.toList (fun gs=>K gf gs) .bad) .bad with h | ⟨gf,h,hf⟩<;>rw[h]
 · trivial
 rcases xa E F n a.toList (fun gs=>K gf gs) .bad with h | ⟨gs,h,hg⟩<;>rw[h]
 · trivial
 refine ⟨nn,fun fc call hle r h rc o ho=>?_⟩
 have ec:∀R,callee E (gn F n r) ⟨.value x,a,t⟩=R→dL E call (gn F n r) h rc o=(match R with
  | some (f,args)=>match lp E f with
    | some g=>(match g args h with | some (x,h')=> .val x h' | none=> .fail "eff" (some o))
    | none=>oB (call f args h)
  | none=> .fail "callee" (some o)):=by
  intro R hR
  simp only[dL,ho,hR]
  cases R with
  | none=>rfl
  | some p=>
    obtain ⟨f,args⟩:=p
    simp only
    cases lp E f with
    | none=>simp only;cases call f args h<;>rfl
    | some g=>rfl
 show ELe (Rv _ _ _ (gf r)) _
 cases hv:gf r with
 | func g first captured=>
   have hc:callee E (gn F n r) ⟨.value x,a,t⟩=some (.fn g,first++gs r++captured):=by
    simp only[callee,hf,hg,hv]
   rw[ec _ hc]
   have ha:mN first (mN (gs r) captured)=first++gs r++captured:=by rw[pB,pB,List.append_assoc]
   show ELe (ob (oB (fc (.fn g) (mN first (mN (gs r) captured)) h)) (fun sp=>ob (.fail "" none) (fun p=> .val p.1 p.2) (sp (mN first (mN (gs r) captured)) h)) (E.jS g)) _
   rw[ha]
   simp only[lp]
   cases hs:E.jS g with
   | none=>exact Ff (hle _ _ _).1 (hle _ _ _).2
   | some sp=>
     show ELe (ob (.fail "" none) (fun p=> .val p.1 p.2) (sp (first++gs r++captured) h)) _
     simp only
     cases sp (first++gs r++captured) h with
     | none=>trivial
     | some p=>rfl
 | vd l=>
   have hc:callee E (gn F n r) ⟨.value x,a,t⟩=some (.CJ l,gs r):=by
    simp only[callee,hf,hg,hv]
   rw[ec _ hc]
   simp only[lp]
   exact Ff (hle _ _ _).1 (hle _ _ _).2
 | _=>trivial
theorem TM (x:Operand) (name:String) (a:Array Operand) (t:Array TypeId):h_ E F n (.call ⟨.invoke x name,a,t⟩) (wO E F n x (fun gx=>wL E F n a.toList (fun gs=> .xw fun call r h _=>th
 (fun t v=>ob (.fail "" none) (fun f=>oB (call (.fn f) (v::gs r) h)) (MV E t name)) (.fail "" none) (gx r)) .bad) .bad):=by
 have nn:vG E (.call ⟨.invoke x name,a,t⟩):=⟨fun _=>rfl,fun _ _=>rfl,fun _=>rfl⟩
 let K:(F.T→AV)→(F.T→List AV)→Kd F.T:=fun gx gs=> .xw fun call r h _=>th
  (fun t v=>ob (.fail "" none) (fun f=>oB (call (.fn f) (v::gs r) h)) (MV E t name)) (.fail "" none) (gx r)
 show h_ E F n _ (wO E F n x (fun gx=>wL E F n a.toList (fun gs=>K gx gs) .bad) .bad)
 rcases ch E F n x (fun gx=>wL E F n a.toList (fun gs=>K gx gs) .bad) .bad with h | ⟨gx,h,hx⟩<;>rw[h]
 · trivial
 rcases xa E F n a.toList (fun gs=>K gx gs) .bad with h | ⟨gs,h,hg⟩<;>rw[h]
 · trivial
 refine ⟨nn,fun fc call hle r h rc o ho=>?_⟩
 show ELe (th _ _ (gx r)) _
 cases hv:gx r with
 | iface u v=>
   show ELe (ob (.fail "" none) (fun f=>oB (fc (.fn f) (v::gs r) h)) (MV E u name)) _
   cases hm:MV E u name with
   | none=>trivial
   | some f=>
     have ZU:zK E u name=some f:=hm
     have ec:dL E call (gn F n r) h rc o=oB (call (.fn f) (v::gs r) h):=by
      simp only[dL,ho,hx,hg,hv,ZU]
      cases call (.fn f) (v::gs r) h<;>rfl
     rw[ec]
     exact Ff (hle _ _ _).1 (hle _ _ _).2
 | _=>trivial
theorem WK (c:Call):h_ E F n (.call c) (ac8 E F n c (.call c)):=by
 obtain ⟨cU,a,t⟩:=c
 cases cU with
 | value x=>cases x with
   | func f=>exact TL f a t
   | tmp x=>exact yK (.tmp x) (by simp) a t
   | const x=>exact yK (.const x) (by simp) a t
   | global x=>exact yK (.global x) (by simp) a t
 | invoke r m=>exact TM r m a t
 | builtin b=>cases b with
   | append=>exact TJ a t
   | copy=>exact RV a t
   | recover=>exact PH a t
   | len=>exact aeo a t
   | cap=>exact aep a t
   | max=>exact fun r v e=>e
   | min=>exact fun r v e=>e
   | _=>trivial
theorem M8 (op:Op):h_ E F n op (xU E F n op):=by
 cases op with
 | move x=>
   show h_ E F n _ (wO E F n x .L7 .bad)
   rcases ch E F n x .L7 (.bad:Kd F.T) with h | ⟨g,h,hg⟩<;>rw[h]
   · trivial
   · exact hg
 | assign x=>
   show h_ E F n _ (wO E F n x .L7 .bad)
   rcases ch E F n x .L7 (.bad:Kd F.T) with h | ⟨g,h,hg⟩<;>rw[h]
   · trivial
   · exact hg
 | pick c a b=>exact aaT c a b
 | binOp op t x y yt=>
   show h_ E F n _ (wO E F n x (fun gx=>wO E F n y (fun gy=>hD op (nC E op t (isConst x) (isConst y)) gx gy) .bad) .bad)
   rcases ch E F n x (fun gx=>wO E F n y (fun gy=>hD op (nC E op t (isConst x) (isConst y)) gx gy) .bad) (.bad:Kd F.T) with h | ⟨gx,h,hx⟩<;>rw[h]
   · trivial
   rcases ch E F n y (fun gy=>hD op (nC E op t (isConst x) (isConst y)) gx gy) (.bad:Kd F.T) with h | ⟨gy,h,hy⟩<;>rw[h]
   · trivial
   exact aaR op t x y yt gx gy hx hy
 | unOp op t x=>
   show h_ E F n _ (wO E F n x (unK op) .bad)
   rcases ch E F n x (unK op) (.bad:Kd F.T) with h | ⟨g,h,hg⟩<;>rw[h]
   · trivial
   exact aei op t x g hg
 | fieldAddr s x f=>exact Kl s x f
 | load t a=>exact aaS t a
 | store t a x=>exact WC t a x
 | nilCheck x=>exact M3 x
 | extract x i=>exact PF x i
 | field s x f=>exact Wz s x f
 | indexAddr t x ix=>exact Km t x ix
 | index t x ix=>exact WA t x ix
 | slice t x lo hi mx=>cases mx with
   | none=>exact WB t x lo hi
   | some m=>exact fun r v e=>e
 | convert s d x=>exact PG s d x
 | makeInterface t x=>exact B7 t x
 | makeFunc f a b=>cases f with
   | func f=>exact M5 f a b
   | _=>trivial
 | alloc t=>exact WD t
 | box t x=>exact aem t x
 | buildSlice t len parts=>exact HG t len parts
 | makeSlice t l c=>exact Kn t l c
 | makeMap t r=>cases r with
   | none=>exact ⟨fun _=>rfl,fun _ _=>rfl,fun r p e=>e⟩
   | some x=>exact ⟨fun _=>rfl,fun _ _=>rfl,fun r p e=>e⟩
 | range t x=>exact ⟨fun _=>rfl,fun _ _=>rfl,fun r p e=>e⟩
 | lookup t x ix ok=>exact TG t x ix ok
 | build t parts=>exact WG t parts
 | typeAssert x a b ok=>exact fun r v e=>e
 | mapUpdate t m k x=>exact Ko t m k x
 | insert t m k x=>exact TH t m k x
 | next it s=>exact aaV it s
 | panic x=>exact WH x
 | defer c=>exact WI c
 | call c=>exact WK c
 | _=>trivial
end Go.Ab.Fa
end
section
namespace Go.Ab.Fa
variable {E:Env} {F:RF} {n:Nat}
def uV (_E:Env) (F:RF) (n:Nat) (o:FO F.T) (out:Out):Prop:=match o with
 | .MS r h y=>out= .ok .normal ⟨gn F n r,h,y.ds,y.rc⟩
 | .jmp e r h y=>e≠ .normal∧out= .ok e ⟨gn F n r,h,y.ds,y.rc⟩
 | .bad=>True
theorem Kp {call:bm} {s:St} {o:Oper} {v:AV} (h:bx E s.ts o.op=some v):JJ E call s o= .ok .normal {s with ts:=dA s.ts o.dst v}:=by
 simp only[JJ,h]
theorem aaY {call:bm} {s:St} {o:Oper} {v:AV} (h0:bx E s.ts o.op=none) (h:fb E s.ts s.h o.op=some v):JJ E call s o= .ok .normal {s with ts:=dA s.ts o.dst v}:=by
 simp only[JJ,h0,h]
theorem Kq {call:bm} {s:St} {o:Oper} (nn:vG E o.op):JJ E call s o=(match dL E call s.ts s.h s.rc o with
 | .val v h'=> .ok .normal {s with ts:=dA s.ts o.dst v,h:=h'}
 | .defer d=> .ok .normal {s with ts:=dA s.ts o.dst AV.undef,ds:=d::s.ds}
 | .uw v=> .ok .normal {s with ts:=dA s.ts o.dst v,rc:= .done}
 | .panic v h'=> .ok (.panic v) {s with h:=h'}
 | .fail why q=> .fail why q):=by
 simp only[JJ,nn.1,nn.2.1,nn.2.2]
 generalize dL E call s.ts s.h s.rc o=x
 cases x<;>rfl
noncomputable def ahk (E:Env) (call:bm) (ops:Array Oper) (rest:List Oper) (out:Out):Out:=match out with
 | .ok .normal s'=>lN E call ops rest s'
 | r=>r
theorem aaZ {ops:Array Oper} {o:Oper} {rest:List Oper} {kd:Kd F.T} {s:AV→F.T→F.T} {j:I F.T} {fc call:bm} (hle:lT fc call) (hk:h_ E F n o.op kd)
 (hs:∀v r,dA (gn F n r) o.dst v=gn F n (s v r)) (hj:∀r h y,uV E F n (j.run fc r h y) (lN E call ops rest ⟨gn F n r,h,y.ds,y.rc⟩)) (r:F.T) (h:aw) (y:Y):
 uV E F n ((PA kd s j).run fc r h y) (ahk E call ops rest (JJ E call ⟨gn F n r,h,y.ds,y.rc⟩ o)):=by
 cases kd with
 | L7 g=>
   rw[Kp (s:=⟨gn F n r,h,y.ds,y.rc⟩) (hk r)]
   show uV E F n (j.run fc (s (g r) r) h y) (lN E call ops rest ⟨dA (gn F n r) o.dst (g r),h,y.ds,y.rc⟩)
   rw[hs];exact hj _ _ _
 | iJ f=>
   show uV E F n (ob .bad (fun v=>j.run fc (s v r) h y) (f r)) _
   cases hf:f r with
   | none=>trivial
   | some v=>
     rw[Kp (s:=⟨gn F n r,h,y.ds,y.rc⟩) (hk r v hf)]
     show uV E F n (j.run fc (s v r) h y) (lN E call ops rest ⟨dA (gn F n r) o.dst v,h,y.ds,y.rc⟩)
     rw[hs];exact hj _ _ _
 | red f=>
   show uV E F n (ob .bad (fun v=>j.run fc (s v r) h y) (f r h)) _
   cases hf:f r h with
   | none=>trivial
   | some v=>
     rcases hk r h v hf with h0 | ⟨h0,h1⟩
     · rw[Kp (s:=⟨gn F n r,h,y.ds,y.rc⟩) h0]
       show uV E F n (j.run fc (s v r) h y) (lN E call ops rest ⟨dA (gn F n r) o.dst v,h,y.ds,y.rc⟩)
       rw[hs];exact hj _ _ _
     rw[aaY (s:=⟨gn F n r,h,y.ds,y.rc⟩) h0 h1]
     show uV E F n (j.run fc (s v r) h y) (lN E call ops rest ⟨dA (gn F n r) o.dst v,h,y.ds,y.rc⟩)
     rw[hs];exact hj _ _ _
 | vi f=>
   obtain ⟨h0,h1,h2⟩:=hk
   show uV E F n (ob .bad (fun p=>ob .bad (fun h'=>j.run fc (s (p.2 h.nx) r) h' y) (h.new p.1)) (f r)) _
   cases hf:f r with
   | none=>trivial
   | some p=>
     obtain ⟨obj,mk⟩:=p
     show uV E F n (ob .bad (fun h'=>j.run fc (s (mk h.nx) r) h' y) (h.new obj)) _
     cases hh:h.new obj with
     | none=>trivial
     | some h'=>
       have:JJ E call ⟨gn F n r,h,y.ds,y.rc⟩ o= .ok .normal ⟨dA (gn F n r) o.dst (mk h.nx),h',y.ds,y.rc⟩:=by
        simp only[JJ,h0,h1,h2 r _ hf,hh]
       rw[this,hs];exact hj _ _ _
 | wr f=>
   obtain ⟨nn,h1⟩:=hk
   show uV E F n (ob .bad (fun p=>j.run fc (s p.1 r) p.2 y) (f r h)) _
   cases hf:f r h with
   | none=>trivial
   | some p=>
     rw[Kq nn,h1 call r h y.rc o p rfl hf]
     show uV E F n (j.run fc (s p.1 r) p.2 y) (lN E call ops rest ⟨dA (gn F n r) o.dst p.1,p.2,y.ds,y.rc⟩)
     rw[hs];exact hj _ _ _
 | call g args=>
   obtain ⟨nn,h1⟩:=hk
   rw[Kq nn,h1 call r h y.rc o rfl]
   show uV E F n (ko.rec (motive:=fun _=>FO F.T) (fun v h'=>j.run fc (s v r) h' y) (fun v h'=> .jmp (.panic v) r h' y) (fun _ _=> .bad) (fc g (args r) h)) _
   cases hc:fc g (args r) h with
   | fail _ _=>trivial
   | ret v h'=>
     rw[(hle _ _ _).1 v h' hc]
     show uV E F n (j.run fc (s v r) h' y) (lN E call ops rest ⟨dA (gn F n r) o.dst v,h',y.ds,y.rc⟩)
     rw[hs];exact hj _ _ _
   | panic v h'=>
     rw[(hle _ _ _).2 v h' hc]
     exact ⟨by simp,rfl⟩
 | xw f=>
   obtain ⟨nn,h1⟩:=hk
   rw[Kq nn]
   have h2:=h1 fc call hle r h y.rc o rfl
   show uV E F n (BE.rec (motive:=fun _=>FO F.T) (fun v h'=>j.run fc (s v r) h' y) (fun d=>j.run fc (s AV.undef r) h ⟨d::y.ds,y.rc⟩) (fun v=>j.run fc (s v r) h ⟨y.ds,.done⟩)
    (fun v h'=> .jmp (.panic v) r h' y) (fun _ _=> .bad) (f fc r h y.rc)) _
   cases he:f fc r h y.rc with
   | fail _ _=>trivial
   | val v h'=>
     rw[he] at h2
     have h2:dL E call (gn F n r) h y.rc o= .val v h':=h2
     rw[h2]
     show uV E F n (j.run fc (s v r) h' y) (lN E call ops rest ⟨dA (gn F n r) o.dst v,h',y.ds,y.rc⟩)
     rw[hs];exact hj _ _ _
   | defer d=>
     rw[he] at h2
     have h2:dL E call (gn F n r) h y.rc o= .defer d:=h2
     rw[h2]
     show uV E F n (j.run fc (s AV.undef r) h ⟨d::y.ds,y.rc⟩) (lN E call ops rest ⟨dA (gn F n r) o.dst AV.undef,h,d::y.ds,y.rc⟩)
     rw[hs];exact hj _ _ ⟨d::y.ds,y.rc⟩
   | uw v=>
     rw[he] at h2
     have h2:dL E call (gn F n r) h y.rc o= .uw v:=h2
     rw[h2]
     show uV E F n (j.run fc (s v r) h ⟨y.ds,.done⟩) (lN E call ops rest ⟨dA (gn F n r) o.dst v,h,y.ds,.done⟩)
     rw[hs];exact hj _ _ ⟨y.ds,.done⟩
   | panic v h'=>
     rw[he] at h2
     have h2:dL E call (gn F n r) h y.rc o= .panic v h':=h2
     rw[h2]
     exact ⟨by simp,rfl⟩
 | bad=>trivial
def B8 (ts:List AV) (d:Nat) (want:Bool):Bool:=match ts[d]? with
 | some (.bool b)=>b==want
 | _=>false
theorem C2 {ts:List AV} {d:Nat} (h:ts.length≤d) (want:Bool):B8 ts d want=false:=by
 unfold B8;rw[List.getElem?_eq_none h]
theorem C3 {ts:List AV} {d:Nat} {v:AV} (h:ts[d]? =some v) (want:Bool):B8 ts d want=kP (fun b=>b==want) false v:=by
 unfold B8;rw[h];cases v<;>rfl
theorem Ae (ops:Array Oper) (ts:List AV) (o:Oper) {j:Nat} {want:Bool} (hg:o.guard=some (j,want)):cO ops ts o=(match (ops[j]?).bind (·.dst) with
 | some d=>match ts[d]? with
   | some (.bool b)=>b==want
   | _=>false
 | none=>false):=by simp only[cO,hg];rfl
theorem WL (ops:Array Oper) (j:Nat):ob none (fun p=>p.dst) (j8 ops.toList j)=(ops[j]?).bind (·.dst):=by
 rw[iR,Array.getElem?_toList];cases ops[j]? <;>rfl
theorem WM (_hn:n≤F.N) (ops:Array Oper) (o:Oper) (a b:I F.T) (call:bm) (r:F.T) (h:aw) (y:Y):
 (RB F n ops o a b).run call r h y=bif cO ops (gn F n r) o then a.run call r h y else b.run call r h y:=by
 unfold RB
 cases hg:o.guard with
 | none=>simp only[cO,hg];rfl
 | some p=>
   obtain ⟨j,want⟩:=p
   rw[Ae ops _ o hg]
   simp only[WL]
   cases (ops[j]?).bind (·.dst) with
   | none=>rfl
   | some d=>
     show (bc (Nat.ble n d) b (PB (F.get d).f want a b)).run call r h y=bif B8 (gn F n r) d want then a.run call r h y else b.run call r h y
     cases hd:Nat.ble n d with
     | true=>
       rw[C2 (by rw[jW];exact gU hd)];rfl
     | false=>
       rw[C3 (wY F n r (lS hd)),fe]
       cases want with
       | true=>
         show kP (fun t=>bc t (a.run call r h y) (b.run call r h y)) (b.run call r h y) ((F.get d).f r)=_
         cases (F.get d).f r with
         | bool t=>cases t<;>rfl
         | _=>rfl
       | false=>
         show kP (fun t=>bc t (b.run call r h y) (a.run call r h y)) (b.run call r h y) ((F.get d).f r)=_
         cases (F.get d).f r with
         | bool t=>cases t<;>rfl
         | _=>rfl
theorem M9 (_hn:n≤F.N) (ops:Array Oper) (o:Oper) (a b:D F.T) (call:bm) (r:F.T) (h:aw) (y:Y):
 (CY F n ops o a b).run call r h y=bif cO ops (gn F n r) o then a.run call r h y else b.run call r h y:=by
 unfold CY
 cases hg:o.guard with
 | none=>simp only[cO,hg];rfl
 | some p=>
   obtain ⟨j,want⟩:=p
   rw[Ae ops _ o hg]
   simp only[WL]
   cases (ops[j]?).bind (·.dst) with
   | none=>rfl
   | some d=>
     show (bc (Nat.ble n d) b (Wl (F.get d).f want a b)).run call r h y=bif B8 (gn F n r) d want then a.run call r h y else b.run call r h y
     cases hd:Nat.ble n d with
     | true=>
       rw[C2 (by rw[jW];exact gU hd)];rfl
     | false=>
       rw[C3 (wY F n r (lS hd)),fe]
       cases want with
       | true=>
         show kP (fun t=>bc t (a.run call r h y) (b.run call r h y)) (b.run call r h y) ((F.get d).f r)=_
         cases (F.get d).f r with
         | bool t=>cases t<;>rfl
         | _=>rfl
       | false=>
         show kP (fun t=>bc t (b.run call r h y) (a.run call r h y)) (b.run call r h y) ((F.get d).f r)=_
         cases (F.get d).f r with
         | bool t=>cases t<;>rfl
         | _=>rfl
theorem Fl (hn:n≤F.N) {fc call:bm} (hle:lT fc call) (ops:Array Oper):∀(l:List Oper) (r:F.T) (h:aw) (y:Y),
 uV E F n ((w_ E F n ops l).run fc r h y) (lN E call ops l ⟨gn F n r,h,y.ds,y.rc⟩)
 | [],r,h,y=>rfl
 | o::rest,r,h,y=>by
   have ih:=Fl hn hle ops rest
   show uV E F n ((Wj E F n ops o (w_ E F n ops rest)).run fc r h y) _
   unfold Wj
   obtain ⟨s,h1,hs⟩:=RR F n hn o.dst (fun s=>RB F n ops o (PA (xU E F n o.op) s (w_ E F n ops rest)) (ac9 s (w_ E F n ops rest)))
   rw[h1,WM hn]
   rw[lN]
   cases hw:cO ops (gn F n r) o with
   | true=>
     rw[if_pos rfl]
     exact aaZ hle (M8 o.op) hs ih r h y
   | false=>
     rw[if_neg (by simp)]
     show uV E F n ((w_ E F n ops rest).run fc (s AV.undef r) h y) _
     simp only[hs]
     exact ih _ _ _
def madeOf:TK→Option Nat
 | .vi n _=>some n
 | _=>none
theorem Af (x:Step) (t:List Step):sY (x::t)=match madeOf x.kind with | none=>sY t | some i=>i::sY t:=by
 show List.filterMap (fun x:Step=>madeOf x.kind) (x::t)=_
 rw[List.filterMap_cons];cases madeOf x.kind<;>rfl
inductive qP (E:Env) (ops:Array Oper) (pl:nL):List TC→List Step→Prop
 | nil:qP E ops pl [] []
 | skip {x:Step} {c:List TC} {t:List Step} (hs:∀h,kO E ops x h=true) (hm:madeOf x.kind=none) (ht:qP E ops pl c t):qP E ops pl c (x::t)
 | chk {x:Step} {c0:TC} {c:List TC} {t:List Step} (hk:c0.k=x.k) (hl:c0.m=lO pl.bT pl.an x.i+1 - x.k) (hm:madeOf x.kind=c0.made)
  (hs:∀h,c0.f h=true→kO E ops x h=true) (ht:qP E ops pl c t):qP E ops pl (c0::c) (x::t)
theorem qP.made {ops:Array Oper} {pl:nL} {c:List TC} {t:List Step} (h:qP E ops pl c t):RH c=sY t:=by
 induction h with
 | nil=>rfl
 | skip hs hm ht ih=>rw[Af,hm];exact ih
 | chk hk hl hm hs ht ih=>
   rename_i x c0 c t
   show ob (RH c) (fun i=>i::RH c) c0.made=_
   rw[Af,hm,ih]
   cases c0.made<;>rfl
theorem qP.all {ops:Array Oper} {pl:nL} {hs:List aw} {c:List TC} {t:List Step} (h:qP E ops pl c t) (e:c.all (fun x=>B0 x.f (vB (vA hs x.k) x.m))=true):
 t.all (fun x=>((hs.drop x.k).take (lO pl.bT pl.an x.i+1 - x.k)).all (kO E ops x))=true:=by
 induction h with
 | nil=>rfl
 | skip s7 hm ht ih=>
   rw[List.all_cons,ih e,Bool.and_true,List.all_eq_true]
   intro h _;exact s7 h
 | chk hk hl hm s7 ht ih=>
   rw[List.all_cons,Bool.and_eq_true] at e
   rw[List.all_cons,ih e.2,Bool.and_true,List.all_eq_true]
   have e1:=e.1
   rw[ti,rZ,rY,List.all_eq_true,hk,hl] at e1
   intro h hh;exact s7 h (e1 h hh)
theorem Fm {ops:Array Oper} {pl:nL} {hs:List aw} {c:List TC} {t:List Step} (h:qP E ops pl c t) (e:tp c hs=true):sZ E ops pl t hs=true:=by
 unfold tp at e
 rw[qb,Bool.and_eq_true,B3,ti,h.made] at e
 unfold sZ
 rw[Bool.and_eq_true]
 exact ⟨e.1,h.all e.2⟩
def Hr (E:Env) (F:RF) (n:Nat) (ops:Array Oper) (pl:nL) (d:DO F.T) (t:lq):Prop:=match d with
 | .ok tr hs r h y=>∃OZ,t= .ok OZ hs ⟨gn F n r,h,y.ds,y.rc⟩∧qP E ops pl tr OZ
 | .bad=>True
theorem Hr.skip {ops:Array Oper} {pl:nL} {d:DO F.T} {t:lq} (h:Hr E F n ops pl d t) {x:Step} (hs:∀h,kO E ops x h=true) (hm:madeOf x.kind=none):Hr E F n ops pl d (t.step x):=by
 cases d with
 | bad=>trivial
 | ok tr s7 r h' y=>
   obtain ⟨OZ,rfl,h2⟩:=h
   exact ⟨x::OZ,rfl,.skip hs hm h2⟩
theorem Hr.bound {ops:Array Oper} {pl:nL} {d:DO F.T} {t:lq} (h:Hr E F n ops pl d t) (h0:aw):Hr E F n ops pl (tj h0 d) (t.bound h0):=by
 cases d with
 | bad=>trivial
 | ok tr s7 r h' y=>
   obtain ⟨OZ,rfl,h2⟩:=h
   exact ⟨OZ,rfl,h2⟩
theorem Hr.chk {ops:Array Oper} {pl:nL} {d:DO F.T} {t:lq} (h:Hr E F n ops pl d t) {x:Step} {c:TC} (hk:c.k=x.k) (hl:c.m=lO pl.bT pl.an x.i+1 - x.k)
 (hm:madeOf x.kind=c.made) (hs:∀h,c.f h=true→kO E ops x h=true):Hr E F n ops pl (IL c d) (t.step x):=by
 cases d with
 | bad=>trivial
 | ok tr s7 r h' y=>
   obtain ⟨OZ,rfl,h2⟩:=h
   exact ⟨x::OZ,rfl,.chk hk hl hm hs h2⟩
theorem M_:∀(m:Nat) (x y:AV),E6 m x y=true→AV.same m x y=true
 | 0,_,_,e=>by cases e
 | m+1,x,y,e=>by
   have ih:=M_ m
   have all:∀(a b:List AV),leq (E6 m) a b=true→ep (AV.same m) a b=true:=by
    intro a
    induction a with
    | nil=>intro b;cases b<;>intro e<;>first | rfl | cases e
    | cons x tl ihl=>
      intro b
      cases b with
      | nil=>intro e;cases e
      | cons y tm=>
        intro e
        have e:bc (E6 m x y) (leq (E6 m) tl tm) false=true:=e
        rw[qb,Bool.and_eq_true] at e
        rw[ep,Bool.and_eq_true]
        exact ⟨ih _ _ e.1,ihl _ e.2⟩
   cases x with
   | int k a=>cases y with
     | int j b=>
       have e:bc (V5 k j) (ieq a b) false=true:=e
       rw[qb,Bool.and_eq_true,PD] at e
       rw[AV.same,RL e.1,e.2];simp
     | _=>cases e
   | str a=>cases y with
     | str b=>
       have e:leq E0 a b=true:=e
       rw[PE] at e
       rw[AV.same];exact e
     | _=>cases e
   | ptr i o=>cases y with
     | ptr j p=>
       have e:bc (Nat.beq i j) (Nat.beq o p) false=true:=e
       rw[qb,Bool.and_eq_true] at e
       rw[AV.same,o_ e.1,o_ e.2];simp
     | _=>cases e
   | bool a=>cases y with
     | bool b=>
       have e:bc a b (yI b)=true:=e
       rw[AV.same]
       cases a<;>cases b<;>first | rfl | cases e
     | _=>cases e
   | agg a=>cases y with
     | agg b=>rw[AV.same];exact all a b e
     | _=>cases e
   | _=>exact e
theorem Fo (hn:n≤F.N) {fc call:bm} (hle:lT fc call) (ops:Array Oper) (pl:nL):∀(l:List Nat) (k:Nat) (r:F.T) (h:aw) (y:Y),
 Hr E F n ops pl ((kC E F n ops pl l k).run fc r h y) (dm E call ops l k ⟨gn F n r,h,y.ds,y.rc⟩)
 | [],k,r,h,y=>⟨[],rfl,.nil⟩
 | i::rest,k,r,h,y=>by
   have ih:=Fo hn hle ops pl rest
   rw[dm]
   show Hr E F n ops pl (D.run (ob ⟨fun _ _ _ _=> .bad⟩ (fun o=>wS F n o.dst fun s=>
    bc (rW E o.op) (canon (k+1) fun k'=>CY F n ops o (RD (xU E F n o.op) s (kC E F n ops pl rest k')) (PC s (kC E F n ops pl rest k')))
     (canon (D_ pl.bT pl.an i+1 - k) fun m=>CY F n ops o (RE k m (xU E F n o.op) s (kC E F n ops pl rest k)) (Wk s (kC E F n ops pl rest k)))) (j8 ops.toList i)) fc r h y) _
   rw[iR,Array.getElem?_toList]
   cases ho:ops[i]? with
   | none=>trivial
   | some o=>
     have ie:(ops.getD i default).op=o.op:=by rw[Array.getD_eq_getD_getElem?,ho];rfl
     simp only[aaF,mR,vE,Py]
     obtain ⟨s,h1,hs⟩:=RR F n hn o.dst (fun s=>
      bc (gP E o.op) (CY F n ops o (RD (xU E F n o.op) s (kC E F n ops pl rest (k+1))) (PC s (kC E F n ops pl rest (k+1))))
      (CY F n ops o (RE k (lO pl.bT pl.an i+1 - k) (xU E F n o.op) s (kC E F n ops pl rest k)) (Wk s (kC E F n ops pl rest k))))
     rw[h1]
     have hk:=M8 (E:=E) (F:=F) (n:=n) o.op
     generalize xU E F n o.op=kd at hk
     cases he:gP E o.op with
     | true=>
       rw[kD,M9 hn,if_pos rfl]
       cases hw:cO ops (gn F n r) o with
       | false=>
         rw[if_neg (by simp)]
         show Hr E F n ops pl (tj h ((kC E F n ops pl rest (k+1)).run fc (s AV.undef r) h y)) _
         simp only[hs]
         exact ((ih _ _ _ _).bound h).skip (fun _=>rfl) rfl
       | true=>
         rw[if_pos rfl]
         show Hr E F n ops pl ((RD kd s (kC E F n ops pl rest (k+1))).run fc r h y) _
         cases kd with
         | wr f=>
           show Hr E F n ops pl (ob .bad (fun p=>tj h ((kC E F n ops pl rest (k+1)).run fc (s p.1 r) p.2 y)) (f r h)) _
           cases hf:f r h with
           | none=>trivial
           | some p=>
             simp only[hk.2 call r h y.rc o p rfl hf,hs]
             exact ((ih _ _ _ _).bound h).skip (fun _=>rfl) rfl
         | call g args=>
           show Hr E F n ops pl (ko.rec (motive:=fun _=>DO F.T) (fun v h'=>tj h ((kC E F n ops pl rest (k+1)).run fc (s v r) h' y)) (fun _ _=> .bad) (fun _ _=> .bad) (fc g (args r) h)) _
           cases hc:fc g (args r) h with
           | fail _ _=>trivial
           | panic _ _=>trivial
           | ret v h'=>
             simp only[hk.2 call r h y.rc o rfl,(hle _ _ _).1 v h' hc,oB,hs]
             exact ((ih _ _ _ _).bound h).skip (fun _=>rfl) rfl
         | xw f=>
           show Hr E F n ops pl (BE.rec (motive:=fun _=>DO F.T) (fun v h'=>tj h ((kC E F n ops pl rest (k+1)).run fc (s v r) h' y)) (fun _=> .bad) (fun _=> .bad) (fun _ _=> .bad) (fun _ _=> .bad) (f fc r h y.rc)) _
           have h2:=hk.2 fc call hle r h y.rc o rfl
           cases hf:f fc r h y.rc with
           | val v h'=>
             rw[hf] at h2
             have h2:dL E call (gn F n r) h y.rc o= .val v h':=h2
             simp only[h2,hs]
             exact ((ih _ _ _ _).bound h).skip (fun _=>rfl) rfl
           | _=>trivial
         | _=>trivial
     | false=>
       rw[fe,M9 hn,if_neg (by simp)]
       cases hw:cO ops (gn F n r) o with
       | false=>
         rw[if_neg (by simp)]
         show Hr E F n ops pl ((kC E F n ops pl rest k).run fc (s AV.undef r) h y) _
         simp only[hs]
         exact (ih _ _ _ _).skip (fun _=>rfl) rfl
       | true=>
         rw[if_pos rfl]
         show Hr E F n ops pl ((RE k (lO pl.bT pl.an i+1 - k) kd s (kC E F n ops pl rest k)).run fc r h y) _
         cases kd with
         | L7 g=>
           simp only[hk r,hs]
           exact (ih _ _ _ _).skip (fun _=>rfl) rfl
         | iJ f=>
           show Hr E F n ops pl (ob .bad (fun v=>(kC E F n ops pl rest k).run fc (s v r) h y) (f r)) _
           cases hf:f r with
           | none=>trivial
           | some v=>
             simp only[hk r v hf,hs]
             exact (ih _ _ _ _).skip (fun _=>rfl) rfl
         | red f=>
           show Hr E F n ops pl (ob .bad (fun v=>IL ⟨k,_,none,fun h'=>ob false (fun v'=>E6 20 v' v) (f r h')⟩ ((kC E F n ops pl rest k).run fc (s v r) h y)) (f r h)) _
           cases hf:f r h with
           | none=>trivial
           | some v=>
             rcases hk r h v hf with q0 | ⟨q0,q1⟩
             · simp only[q0,hs]
               exact (ih _ _ _ _).chk rfl rfl rfl fun h' _=>rfl
             simp only[q0,q1,hs]
             refine (ih _ _ _ _).chk rfl rfl rfl fun h' e=>?_
             have e:ob false (fun v'=>E6 20 v' v) (f r h')=true:=e
             cases hf':f r h' with
             | none=>rw[hf'] at e;cases e
             | some v'=>
               rw[hf'] at e
               rcases hk r h' v' hf' with q2 | ⟨_,q3⟩
               · rw[q0] at q2;cases q2
               simp only[kO,ie,q3]
               exact M_ 20 v' v e
         | vi f=>
           obtain ⟨h3,h4,h5⟩:=hk
           show Hr E F n ops pl (ob .bad (fun p=>ob .bad (fun h'=>IL ⟨k,_,some h.nx,fun RG=>ob false (fun o=>aH.same o p.1) (RG.get h.nx)⟩ ((kC E F n ops pl rest k).run fc (s (p.2 h.nx) r) h' y)) (h.new p.1)) (f r)) _
           cases hf:f r with
           | none=>trivial
           | some p=>
             obtain ⟨obj,mk⟩:=p
             show Hr E F n ops pl (ob .bad (fun h'=>IL ⟨k,_,some h.nx,fun RG=>ob false (fun o=>aH.same o obj) (RG.get h.nx)⟩ ((kC E F n ops pl rest k).run fc (s (mk h.nx) r) h' y)) (h.new obj)) _
             cases hh:h.new obj with
             | none=>trivial
             | some h'=>
               simp only[h3,h4,h5 r _ hf,hh,hs]
               refine (ih _ _ _ _).chk rfl rfl rfl fun RG e=>?_
               have e:ob false (fun o=>aH.same o obj) (RG.get h.nx)=true:=e
               cases hf':RG.get h.nx with
               | none=>rw[hf'] at e;cases e
               | some o'=>
                 rw[hf'] at e
                 simp only[kO,hf']
                 exact e
         | _=>trivial
theorem WN {fc call:bm} (hle:lT fc call) {ts:List AV} {h h':aw} {rc:RC} {dst:Option Tmp} {c:Call} {ty:TypeId} {pos:String} {after:Array Edge} {guard:Option (Nat×Bool)} {v:AV} (e:dL E fc ts h rc ⟨dst,.call c,ty,pos,after,guard⟩= .panic v h'):
 dL E call ts h rc ⟨dst,.call c,ty,pos,after,guard⟩= .panic v h':=by
 obtain ⟨cU,args,aT⟩:=c
 cases cU with
 | builtin b=>
   cases b<;>simp only[dL] at e<;>(try (simp at e;done))<;>(split at e<;>(try (simp at e;done))<;>(try (split at e<;>simp at e)))
 | value f=>
   simp only[dL] at e ⊢
   split at e
   · split at e
     · split at e<;>simp at e
     · split at e
       · simp at e
       · rename_i hc
         simp at e;obtain ⟨rfl,rfl⟩:=e
         simp only[(hle _ _ _).2 _ _ hc]
       · simp at e
   · simp at e
 | invoke x name=>
   simp only[dL] at e ⊢
   split at e
   · split at e
     · split at e
       · simp at e
       · rename_i hc
         simp at e;obtain ⟨rfl,rfl⟩:=e
         simp only[(hle _ _ _).2 _ _ hc]
       · simp at e
     · simp at e
   · simp at e
theorem qP.snoc {ops:Array Oper} {pl:nL} {c:List TC} {t:List Step} (h:qP E ops pl c t) {x:Step} (hs:∀h,kO E ops x h=true) (hm:madeOf x.kind=none):qP E ops pl c (t++[x]):=by
 induction h with
 | nil=>exact .skip hs hm .nil
 | skip a b _ ih=>exact .skip a b ih
 | chk a b d e _ ih=>exact .chk a b d e ih
theorem aa0 (hn:n≤F.N) {fc call:bm} (hle:lT fc call) (ops:Array Oper) (pl:nL) (r:F.T) (h:aw) (y:Y):
 uV E F n (aaD E F n ops pl fc r h y) (match dm E call ops pl.order 0 ⟨gn F n r,h,y.ds,y.rc⟩ with
  | .ok tr hs s'=>if sZ E ops pl tr hs then .ok .normal s' else .fail "still" (ops[0]?)
  | .fail why o=>match Ep E call ops ⟨gn F n r,h,y.ds,y.rc⟩ pl with
    | some (v,s2)=> .ok (.panic v) s2
    | none=> .fail why o):=by
 unfold aaD
 split
 · trivial
 rename_i i front aan
 split
 · rename_i tr hs r1 h1 y1 dst c ty pos after guard hd ho
   split
   · rename_i v h' OV VP
     split
     · rename_i hl
       have hk:=Fo (E:=E) hn hle ops pl front.reverse 0 r h y
       rw[hd] at hk
       obtain ⟨OZ,e1,e2⟩:=hk
       have VL:pl.order=front.reverse++[i]:=by
        have:=congrArg List.reverse aan
        simpa using this
       have ahl:=WN hle VP
       have Tk:=OV
       simp only[Bool.and_eq_true] at Tk
       obtain ⟨why,q,e3⟩:=BU ho Tk.1.1 front.reverse 0 _ e1 Tk.1.2 ahl
       rw[VL,e3]
       have VQ:Ep E call ops ⟨gn F n r,h,y.ds,y.rc⟩ pl=some (v,⟨gn F n r1,h',y1.ds,y1.rc⟩):=by
        unfold Ep
        rw[aan]
        simp only[e1,ho,OV,if_true,ahl]
        rw[if_pos (Fm (e2.snoc (fun _=>rfl) rfl) hl)]
       simp only[VQ]
       exact ⟨by simp,rfl⟩
     · trivial
   · trivial
 · trivial
theorem WO (hn:n≤F.N) {fc call:bm} (hle:lT fc call) (ops:Array Oper) (r:F.T) (h:aw) (y:Y):
 uV E F n ((RI E F n ops).run fc r h y) (zL E call ops ⟨gn F n r,h,y.ds,y.rc⟩):=by
 unfold RI zL
 rw[Wc]
 cases vh E ops with
 | none=>trivial
 | some pl=>
   show uV E F n (DO.rec (motive:=fun _=>FO F.T) (fun tr hs r' h' y'=>bc (tp tr hs) (.MS r' h' y') .bad) (aaD E F n ops pl fc r h y) ((kC E F n ops pl pl.order 0).run fc r h y)) _
   have:=Fo (E:=E) hn hle ops pl pl.order 0 r h y
   cases hd:(kC E F n ops pl pl.order 0).run fc r h y with
   | bad=>exact aa0 hn hle ops pl r h y
   | ok tr hs r' h' y'=>
     rw[hd] at this
     obtain ⟨OZ,h1,h2⟩:=this
     show uV E F n (bc (tp tr hs) (.MS r' h' y') .bad) _
     cases hl:tp tr hs with
     | false=>trivial
     | true=>
       simp only[h1]
       rw[if_pos (Fm h2 hl)]
       rfl
end Go.Ab.Fa
end
section
namespace Go.Ab.Fa
variable {E:Env} {F:RF} {n:Nat}
theorem M' {fc call:bm} (hle:lT fc call) {f:Operand} {ps:Array Tmp} {as bd:Code} {s:St} {e:lY} {s':St} (h:o5 E fc f ps as bd s= .ok e s'):o5 E call f ps as bd s= .ok e s':=by
 unfold o5 at h ⊢
 split at h
 case h_2=>cases h
 rename_i g first captured hv
 split at h
 case h_2=>cases h
 rename_i dn h1 ds1 ho
 split at h
 case h_2=>cases h
 rename_i h2 hn
 cases hc:fc (.fn g) (first++[.vd h1.nx]++captured) h2 with
 | ret v h3=>rw[hc] at h;rw[(hle _ _ _).1 _ _ hc];exact h
 | panic v h3=>rw[hc] at h;rw[(hle _ _ _).2 _ _ hc];exact h
 | fail why q=>rw[hc] at h;cases h
theorem TN {call:bm} {f:Operand} {ps:Array Tmp} {as bd:Code} {s:St} {e:lY} {s':St} (h:o5 E call f ps as bd s= .ok e s'):s'.ts=s.ts:=by
 unfold o5 at h
 split at h
 case h_2=>cases h
 split at h
 case h_2=>cases h
 split at h
 case h_2=>cases h
 split at h
 · split at h
   · cases h
   · split at h
     · simp only[Out.ok.injEq] at h;rw[←h.2]
     · cases h
   · cases h
 · simp only[Out.ok.injEq] at h;rw[←h.2]
 · cases h
theorem WQ {o:FO F.T} {out:Out} (h:uV E F n o out) {k:F.T→aw→Y→FO F.T} {g:St→Out} (hk:∀r h y,uV E F n (k r h y) (g ⟨gn F n r,h,y.ds,y.rc⟩)):
 uV E F n (fo k .jmp .bad o) (match (generalizing:=false) out with | .ok .normal s'=>g s' | r=>r):=by
 cases o with
 | MS r h' y=>rw[show out=_ from h];exact hk r h' y
 | jmp e r h' y=>
   obtain ⟨h1,h2⟩:=h
   rw[h2]
   cases e with
   | normal=>exact absurd rfl h1
   | _=>exact ⟨by simp,rfl⟩
 | bad=>trivial
theorem mY (hn:n≤F.N) {fc call:bm} (hle:lT fc call):∀(c:Code) (m:Nat) (r:F.T) (h:aw) (y:Y),
 uV E F n ((oC E F n c).run m fc r h y) (exec E call m c ⟨gn F n r,h,y.ds,y.rc⟩)
 | .skip,m,r,h,y=>by cases m with
   | zero=>trivial
   | succ m=>exact rfl
 | .label _,m,r,h,y=>by cases m with
   | zero=>trivial
   | succ m=>exact rfl
 | .ret,m,r,h,y=>by cases m with
   | zero=>trivial
   | succ m=>exact ⟨by simp,rfl⟩
 | .exit id,m,r,h,y=>by cases m with
   | zero=>trivial
   | succ m=>exact ⟨by simp,rfl⟩
 | .region _ ops draw,m,r,h,y=>by
   cases m with
   | zero=>cases draw<;>trivial
   | succ m=>cases draw with
     | true=>exact WO hn hle ops r h y
     | false=>exact Fl hn hle ops ops.toList r h y
 | .seq a b,m,r,h,y=>by cases m with
   | zero=>trivial
   | succ m=>
     have h1:=mY hn hle a m r h y
     have h2:=mY hn hle b m
     exact WQ h1 (g:=fun s'=>exec E call m b s') h2
 | .cond x a b,m,r,h,y=>by
   have ha:=mY hn hle a
   have hb:=mY hn hle b
   show uV E F n (C.run (wO E F n x (fun g=>⟨fun m call r h y=>nS .bad (fun i=>kP (fun t=>bc t ((oC E F n a).run i call r h y) ((oC E F n b).run i call r h y)) .bad (g r)) m⟩) ⟨fun _ _ _ _ _=> .bad⟩) m fc r h y) _
   rcases ch E F n x (fun g=>(⟨fun m call r h y=>nS .bad (fun i=>kP (fun t=>bc t ((oC E F n a).run i call r h y) ((oC E F n b).run i call r h y)) .bad (g r)) m⟩:C F.T)) ⟨fun _ _ _ _ _=> .bad⟩ with hw | ⟨g,hw,hg⟩<;>rw[hw]
   · trivial
   cases m with
   | zero=>trivial
   | succ m=>
     show uV E F n (kP (fun t=>bc t ((oC E F n a).run m fc r h y) ((oC E F n b).run m fc r h y)) .bad (g r)) _
     rw[exec]
     simp only[hg]
     cases g r with
     | bool t=>cases t with
       | true=>exact ha m r h y
       | false=>exact hb m r h y
     | _=>trivial
 | .block id b,m,r,h,y=>by cases m with
   | zero=>trivial
   | succ m=>
     have hb:=mY hn hle b m r h y
     show uV E F n (fo .MS (fun e r' h' y'=>Wm (fun j=>bc (Nat.beq j id) (.MS r' h' y') (.jmp e r' h' y')) (.jmp e r' h' y') e) .bad ((oC E F n b).run m fc r h y)) _
     rw[exec]
     cases hr:(oC E F n b).run m fc r h y with
     | bad=>trivial
     | MS r' h' y'=>
       rw[hr] at hb
       have hb:exec E call m b _= .ok .normal ⟨gn F n r',h',y'.ds,y'.rc⟩:=hb
       rw[hb];exact rfl
     | jmp e r' h' y'=>
       rw[hr] at hb
       obtain ⟨h1,h2⟩:=hb
       rw[h2]
       cases e with
       | normal=>exact absurd rfl h1
       | exit j=>
         show uV E F n (bc (Nat.beq j id) (.MS r' h' y') (.jmp (.exit j) r' h' y')) (if j=id then _ else _)
         cases hj:Nat.beq j id with
         | true=>rw[if_pos (o_ hj)];exact rfl
         | false=>rw[if_neg (by intro e;rw[e,Nat.beq_refl] at hj;cases hj)];exact ⟨by simp,rfl⟩
       | ret=>exact ⟨by simp,rfl⟩
       | panic v=>exact ⟨by simp,rfl⟩
 | .loop b,m,r,h,y=>by
   have hb:=mY hn hle b
   show uV E F n (Wn (oC E F n b) m fc r h y) _
   induction m generalizing r h y with
   | zero=>trivial
   | succ m ih=>
     show uV E F n (fo (fun r' h' y'=>Wn (oC E F n b) m fc r' h' y') .jmp .bad ((oC E F n b).run m fc r h y)) _
     exact WQ (hb m r h y) (g:=fun s'=>exec E call m (.loop b) s') ih
 | .rangeFunc f ps as bd,m,r,h,y=>by
   show uV E F n ((aaE (Kh E F n f ps as bd)).run m fc r h y) _
   cases m with
   | zero=>trivial
   | succ m=>
     show uV E F n ((Kh E F n f ps as bd).run fc r h y) (o5 E call f ps as bd ⟨gn F n r,h,y.ds,y.rc⟩)
     unfold Kh
     rcases ch E F n f (fun _=>(⟨fun call r h y=>ada r (o5 E call f ps as bd ⟨gn F n r,h,y.ds,y.rc⟩)⟩:I F.T)) ⟨fun _ _ _ _=> .bad⟩ with hw | ⟨g,hw,_⟩<;>rw[hw]
     · trivial
     simp only
     cases hr:o5 E fc f ps as bd ⟨gn F n r,h,y.ds,y.rc⟩ with
     | fail _ _=>trivial
     | ok e s=>
       rw[M' hle hr]
       have ht:=TN hr
       obtain ⟨ts,hh,ds,rc⟩:=s
       simp only at ht
       subst ht
       cases e with
       | normal=>exact rfl
       | _=>exact ⟨by simp,rfl⟩
 | .scope b,m,r,h,y=>by cases m with
   | zero=>trivial
   | succ m=>exact mY hn hle b m r h y
 | .goto _,m,r,h,y=>trivial
 | .refuse _,m,r,h,y=>trivial
theorem Ag:∀(l:List ResultVar) (r:F.T) (h:aw) (vs:List AV),(B5 E F n l).f r h=some vs→lZ E h (gn F n r) l=some vs
 | [],r,h,vs,e=>e
 | .tmp t::rest,r,h,vs,e=>by
   rw[B5] at e
   obtain ⟨g,h1,h2⟩:=Kk F n t (fun g=>wW (B5 E F n rest) fun k=>(⟨fun r h=>ob none (fun vs=>some (g r::vs)) (k r h)⟩:W (F.T→aw→Option (List AV))))
   rw[h1] at e
   obtain ⟨s9,h3,h4⟩:=iD (show ob none (fun vs=>some (g r::vs)) ((B5 E F n rest).f r h)=some vs from e)
   rw[lZ]
   simp only[h2,Ag rest r h s9 h3]
   exact h4
 | .cell a t::rest,r,h,vs,e=>by
   rw[B5] at e
   obtain ⟨g,h1,h2⟩:=Kk F n a (fun g=>wW (B5 E F n rest) fun k=>(⟨fun r h=>ob none (fun v=>ob none (fun vs=>some (v::vs)) (k r h)) (aY E h t (g r))⟩:W (F.T→aw→Option (List AV))))
   rw[h1] at e
   obtain ⟨v,h3,h4⟩:=iD (show ob none (fun v=>ob none (fun vs=>some (v::vs)) ((B5 E F n rest).f r h)) (aY E h t (g r))=some vs from e)
   obtain ⟨s9,h5,h6⟩:=iD h4
   rw[lZ]
   simp only[h2,h3,Ag rest r h s9 h5]
   exact h6
def BOk (E:Env) (rs:List ResultVar) (b:BO) (out:Out):Prop:=match b with
 | .fin res h y=>∃e ts,(e= .normal∨e= .ret)∧out= .ok e ⟨ts,h,y.ds,y.rc⟩∧∀h' vs,res h'=some vs→lZ E h' ts rs=some vs
 | .pan v res h y=>∃ts,out= .ok (.panic v) ⟨ts,h,y.ds,y.rc⟩∧∀h' vs,res h'=some vs→lZ E h' ts rs=some vs
 | .bad=>True
theorem Na {fc call:bm} (hle:lT fc call) (F:RF) (fn:Func) (hn:fn.ntmps≤F.N) (b:Code) (fuel:Nat) (args:List AV) (h:aw) (rc:RC):
 BOk E fn.results.toList ((Wo E F fn.ntmps fn b).run fuel fc args h rc) (pj E call fuel fn b args h rc):=by
 show BOk E _ (bc (Nat.ble (j7 args) fn.ntmps)
  (fo (fun r h' y=> .fin ((B5 E F fn.ntmps fn.results.toList).f r) h' y) (fun e r h' y=>lY.rec (motive:=fun _=>BO) .bad (fun _=> .bad) (.fin ((B5 E F fn.ntmps fn.results.toList).f r) h' y) (fun v=> .pan v ((B5 E F fn.ntmps fn.results.toList).f r) h' y) e) .bad
   ((oC E F fn.ntmps b).run fuel fc (U8 F args F.z 0) h ⟨[],rc⟩)) .bad) _
 cases hl:Nat.ble (j7 args) fn.ntmps with
 | false=>trivial
 | true=>
   have hl:=gU hl
   rw[g_] at hl
   have:=mY (E:=E) hn hle b fuel (U8 F args F.z 0) h ⟨[],rc⟩
   rw[Ru F fn.ntmps hn args hl] at this
   rw[kD]
   unfold pj
   cases hr:(oC E F fn.ntmps b).run fuel fc (U8 F args F.z 0) h ⟨[],rc⟩ with
   | bad=>trivial
   | MS r h' y=>
     rw[hr] at this
     exact ⟨.normal,_,.inl rfl,this,fun RG vs e=>Ag _ r RG vs e⟩
   | jmp e r h' y=>
     rw[hr] at this
     obtain ⟨h1,h2⟩:=this
     cases e with
     | normal=>exact absurd rfl h1
     | exit _=>trivial
     | ret=>exact ⟨.ret,_,.inr rfl,h2,fun RG vs e=>Ag _ r RG vs e⟩
     | panic v=>exact ⟨_,h2,fun RG vs e=>Ag _ r RG vs e⟩
theorem Nb {fc call:bm} (hle:lT fc call) (f:FuncId) (fuel:Nat) (args:List AV) (h:aw) (rc:RC):
 (CZ E f).run fuel fc args h rc= .bad∨∃fn b,E.P.funcs[f]? =some fn∧fn.body=some b∧BOk E fn.results.toList ((CZ E f).run fuel fc args h rc) (pj E call fuel fn b args h rc):=by
 unfold CZ
 rw[aax]
 cases hf:E.P.funcs[f]? with
 | none=>exact .inl rfl
 | some fn=>
   simp only
   cases hb:fn.body with
   | none=>exact .inl rfl
   | some b=>
     refine .inr ⟨fn,b,rfl,hb,?_⟩
     simp only
     cases h1:Nat.ble fn.ntmps 64 with
     | true=>exact Na hle rf2 fn (gU h1) b fuel args h rc
     | false=>cases h2:Nat.ble fn.ntmps 512 with
       | true=>exact Na hle rf3 fn (gU h2) b fuel args h rc
       | false=>trivial
theorem vH {fc call:bm} (hle:lT fc call) {fuel:Nat} {c:Code} {s:St} {e:lY} {s':St} (h:RK E fc fuel c s= .ok e s'):exec E call fuel c s= .ok e s':=by
 have key:∀F:RF,s.ts.length≤F.N→RJ E F fc fuel c s= .ok e s'→exec E call fuel c s= .ok e s':=by
  intro F hn hx
  have:=mY (E:=E) hn hle c fuel (U8 F s.ts F.z 0) s.h ⟨s.ds,s.rc⟩
  rw[Ru F s.ts.length hn s.ts (Nat.le_refl _),Nat.sub_self,List.replicate_zero,List.append_nil] at this
  unfold RJ at hx
  cases hr:(oC E F s.ts.length c).run fuel fc (U8 F s.ts F.z 0) s.h ⟨s.ds,s.rc⟩ with
  | bad=>rw[hr] at hx;cases hx
  | MS r h' y=>rw[hr] at hx this;rw[show exec E call fuel c s=_ from this];exact hx
  | jmp e' r h' y=>rw[hr] at hx this;rw[show exec E call fuel c s=_ from this.2];exact hx
 unfold RK at h
 cases h1:Nat.ble s.ts.length 64 with
 | true=>rw[h1] at h;exact key rf2 (gU h1) h
 | false=>cases h2:Nat.ble s.ts.length 512 with
   | true=>rw[h1,h2] at h;exact key rf3 (gU h2) h
   | false=>rw[h1,h2] at h;cases h
noncomputable def Kr (E:Env) (call:bm) (fuel:Nat) (g:FuncId) (as:List AV) (h:aw) (rc:RC):Option (aw×RC):=match E.P.funcs[g]? with
 | none=>none
 | some fg=>match fg.body with
   | none=>none
   | some bg=>match pj E call fuel fg bg as h rc with
     | .ok .normal s'=>if s'.ds.isEmpty&&(lZ E s'.h s'.ts fg.results.toList).isSome then some (s'.h,s'.rc) else none
     | .ok .ret s'=>if s'.ds.isEmpty&&(lZ E s'.h s'.ts fg.results.toList).isSome then some (s'.h,s'.rc) else none
     | _=>none
theorem WR {fc call:bm} (hle:lT fc call) {fuel:Nat} {g:FuncId} {as:List AV} {h:aw} {rc:RC} {p:aw×RC} (e:jr E fc fuel g as h rc=some p):Kr E call fuel g as h rc=some p:=by
 unfold jr at e
 rcases Nb (E:=E) hle g fuel as h rc with h1 | ⟨fn,b,h1,h2,h3⟩
 · rw[h1] at e;cases e
 · unfold Kr
   rw[h1];simp only;rw[h2];simp only
   cases hr:(CZ E g).run fuel fc as h rc with
   | bad=>rw[hr] at e;cases e
   | pan v res h' y=>rw[hr] at e;cases e
   | fin res h' y=>
     rw[hr] at e h3
     obtain ⟨x,ts,h4,h5,h6⟩:=h3
     obtain ⟨h7,e1⟩:=hF (show bc y.ds.isEmpty (ob none (fun _=>some (h',y.rc)) (res h')) none=some p from e)
     obtain ⟨vs,h8,e2⟩:=iD e1
     rw[h5]
     rcases h4 with rfl | rfl
     · simp only[h7,h6 h' vs h8,Option.isSome_some,Bool.and_self,if_true];exact e2
     · simp only[h7,h6 h' vs h8,Option.isSome_some,Bool.and_self,if_true];exact e2
theorem mZ {f g:FuncId→List AV→aw→RC→Option (aw×RC)} (hfg:∀k as h rc p,f k as h rc=some p→g k as h rc=some p):∀(ds:List sX) (p:Option AV) (h:aw) {q:Option AV×aw},dv f ds p h=some q→dv g ds p h=some q
 | [],p,h,q,e=>by cases p<;>exact e
 | .col r::ds,p,h,q,e=>by
   rw[dv] at e ⊢
   split at e
   · exact mZ hfg ds p _ e
   · cases e
 | .call k as::ds,none,h,q,e=>by
   rw[dv] at e ⊢
   cases hf:f k as h .no with
   | none=>rw[hf] at e;cases e
   | some p=>rw[hf] at e;rw[hfg _ _ _ _ _ hf];obtain ⟨h',rc'⟩:=p;exact mZ hfg ds none h' e
 | .call k as::ds,some v,h,q,e=>by
   rw[dv] at e ⊢
   cases hf:f k as h (.j5 v) with
   | none=>rw[hf] at e;cases e
   | some p=>
     rw[hf] at e;rw[hfg _ _ _ _ _ hf];obtain ⟨h',rc'⟩:=p
     cases rc' with
     | j5 w=>exact mZ hfg ds _ h' e
     | done=>exact mZ hfg ds _ h' e
     | _=>cases e
theorem TO {fc call:bm} (hle:lT fc call) (fuel:Nat) (l:Nat) (args:List AV) (h:aw):(∀v h',E7 E fc fuel l args h= .ret v h'→yr E call fuel l args h= .ret v h')∧∀v h',E7 E fc fuel l args h= .panic v h'→yr E call fuel l args h= .panic v h':=by
 have key:∀out:ko,(∀why o,out≠ .fail why o)→E7 E fc fuel l args h=out→yr E call fuel l args h=out:=by
  intro out rN e
  unfold E7 at e
  unfold yr
  split at e
  case h_2=>exact absurd e.symm (rN _ _)
  rename_i st pd ts ps as bd dn hg
  rw[hg]
  simp only
  by_cases ha:args.length=ps.length
  · rw[if_pos ha] at e ⊢
    split at e
    · rename_i s1 h1
      rw[vH hle h1]
      simp only
      split at e
      · rename_i pd ts2 ps2 as2 bd2 dn2 hg2
        rw[hg2]
        simp only
        split at e
        · rename_i s2 h2;rw[vH hle h2];exact e
        · rename_i s2 h2;rw[vH hle h2];exact e
        · rename_i id s2 h2;rw[vH hle h2];exact e
        · rename_i v s2 h2;rw[vH hle h2];exact e
        · exact absurd e.symm (rN _ _)
      · exact absurd e.symm (rN _ _)
    · exact absurd e.symm (rN _ _)
    · exact absurd e.symm (rN _ _)
  · rw[if_neg ha] at e;exact absurd e.symm (rN _ _)
 exact ⟨fun v h' e=>key _ (by simp) e,fun v h' e=>key _ (by simp) e⟩
noncomputable def WS (E:Env) (call:bm) (fuel:Nat) (fn:Func) (p:Option AV) (s:St):ko:=match dv (Kr E call fuel) s.ds p s.h with
 | none=> .fail "unwind" none
 | some (some v,h')=> .panic v h'
 | some (none,h')=>match lZ E h' s.ts fn.results.toList with
   | some vs=> .ret (je vs) h'
   | none=> .fail "results" none
theorem PI (d fuel:Nat) {f:FuncId} {fn:Func} {b:Code} (hf:E.P.funcs[f]? =some fn) (hb:fn.body=some b) (args:List AV) (h:aw):
 iA E (d+1) fuel (.fn f) args h=(match pj E (iA E d fuel) fuel fn b args h .no with
  | .ok .normal s=>WS E (iA E d fuel) fuel fn none s
  | .ok .ret s=>WS E (iA E d fuel) fuel fn none s
  | .ok (.panic v) s=>WS E (iA E d fuel) fuel fn (some v) s
  | .ok (.exit _) _=> .fail "exit" none
  | .fail why o=> .fail (why++ " in " ++fn.name) o):=by
 rw[iA]
 simp only[hf,hb]
 rfl
theorem RW {fc call:bm} (hle:lT fc call) {fuel:Nat} {fn:Func} {p:Option AV} {res:aw→Option (List AV)} {ts:List AV} {h:aw} {y:Y} (HE:∀h' vs,res h'=some vs→lZ E h' ts fn.results.toList=some vs) {out:ko} (ho:∀why o,out≠ .fail why o)
 (e:MX (p.elim (ob (.fail "results" none) (fun vs=>ko.ret (je vs) h) (res h)) (fun v=> .panic v h)) (MW E fc fuel p res h y.ds) y.ds=out):WS E call fuel fn p ⟨ts,h,y.ds,y.rc⟩=out:=by
 unfold WS
 cases hd:y.ds with
 | nil=>
   rw[hd] at e
   cases p with
   | some v=>exact e
   | none=>
     have e:ob (.fail "results" none) (fun vs=>ko.ret (je vs) h) (res h)=out:=e
     cases hr:res h with
     | none=>rw[hr] at e;exact absurd e.symm (ho _ _)
     | some vs=>
       rw[hr] at e
       simp only[dv,HE h vs hr]
       exact e
 | cons d ds=>
   rw[hd] at e
   have e:MW E fc fuel p res h (d::ds)=out:=e
   unfold MW at e
   cases hu:dv (jr E fc fuel) (d::ds) p h with
   | none=>rw[hu] at e;exact absurd e.symm (ho _ _)
   | some q=>
     rw[hu] at e
     have:=mZ (g:=Kr E call fuel) (fun k as h rc p e=>WR hle e) (d::ds) p h hu
     simp only[this]
     obtain ⟨q1,h'⟩:=q
     cases q1 with
     | some v=>exact e
     | none=>
       have e:ob (.fail "results" none) (fun vs=>ko.ret (je vs) h') (res h')=out:=e
       cases hr:res h' with
       | none=>rw[hr] at e;exact absurd e.symm (ho _ _)
       | some vs=>rw[hr] at e;simp only[HE h' vs hr];exact e
theorem Nc (fuel:Nat):∀d,lT (C1 E d fuel) (iA E d fuel)
 | 0=>fun _ _ _=>⟨fun _ _ e=>(by cases e),fun _ _ e=>(by cases e)⟩
 | d+1=>by
   have ih:=Nc fuel d
   intro g args h
   cases g with
   | CJ l=>exact TO ih fuel l args h
   | fn f=>
     have key:∀out:ko,(∀why o,out≠ .fail why o)→C1 E (d+1) fuel (.fn f) args h=out→iA E (d+1) fuel (.fn f) args h=out:=by
      intro out ho e
      have e:bo (fun res h' y=>MX (ob (.fail "results" none) (fun vs=>ko.ret (je vs) h') (res h')) (MW E (C1 E d fuel) fuel none res h' y.ds) y.ds)
       (fun v res h' y=>MX (.panic v h') (MW E (C1 E d fuel) fuel (some v) res h' y.ds) y.ds) (.fail "body" none) ((CZ E f).run fuel (C1 E d fuel) args h .no)=out:=e
      rcases Nb (E:=E) ih f fuel args h .no with h1 | ⟨fn,b,h1,h2,h3⟩
      · rw[h1] at e;exact absurd e.symm (ho _ _)
      · rw[PI d fuel h1 h2]
        cases hr:(CZ E f).run fuel (C1 E d fuel) args h .no with
        | bad=>rw[hr] at e;exact absurd e.symm (ho _ _)
        | fin res h' y=>
          rw[hr] at e h3
          obtain ⟨x,ts,h4,h5,h6⟩:=h3
          have:=RW (E:=E) ih (fn:=fn) (p:=none) h6 ho e
          rw[h5]
          rcases h4 with rfl | rfl<;>exact this
        | pan v res h' y=>
          rw[hr] at e h3
          obtain ⟨ts,h5,h6⟩:=h3
          have:=RW (E:=E) ih (fn:=fn) (p:=some v) h6 ho e
          rw[h5];exact this
     exact ⟨fun v h' e=>key _ (by simp) e,fun v h' e=>key _ (by simp) e⟩
theorem Fq {d fuel:Nat} {f:FuncId} {args:List AV} {h h':aw} {v:AV} (e:C1 E d fuel (.fn f) args h= .ret v h'):iA E d fuel (.fn f) args h= .ret v h':=
 (Nc fuel d _ _ _).1 v h' e
end Go.Ab.Fa
end
section
namespace Go.Ab
structure alQ (P:Program) (f:FuncId) (e:Array Value→Sem Value):Prop where
 at':∃fn,P.funcs[f]? =some fn∧(fn.name== "runtime.NumGoroutine")=false∧fn.body.isNone=true∧Extern.findNext fn=none∧Extern.find fn=some e
section
open Fa
noncomputable def l3 {R:Type} (f:AV→AV→AV→R) (d:R) (l:List AV):R:=
 List.rec (motive:=fun _=>R) d (fun a tl _=>List.rec (motive:=fun _=>R) d (fun b tl _=>List.rec (motive:=fun _=>R) d (fun c tl _=>List.rec (motive:=fun _=>R) (f a b c) (fun _ _ _=>d) tl) tl) tl) l
noncomputable def l2 {R:Type} (f:AV→AV→R) (d:R) (l:List AV):R:=
 List.rec (motive:=fun _=>R) d (fun a tl _=>List.rec (motive:=fun _=>R) d (fun b tl _=>List.rec (motive:=fun _=>R) (f a b) (fun _ _ _=>d) tl) tl) l
noncomputable def n3 (f:Nat→Nat→Nat→Option AV):List AV→Option AV:=
 l3 (fun a b c=>p_ (fun _ x=>p_ (fun _ y=>p_ (fun _ z=>mu (fun x=>mu (fun y=>mu (fun z=>f x y z) none z) none y) none x) none c) none b) none a) none
end
open Fa
end Go.Ab
end
section
namespace Go.Ab
open Go.Maps Go.WideElems Go.RowKit Go.Proofs
section
open Fa
noncomputable def l1 {R:Type} (f:AV→R) (d:R) (l:List AV):R:=List.rec (motive:=fun _=>R) d (fun a tl _=>List.rec (motive:=fun _=>R) (f a) (fun _ _ _=>d) tl) l
end
open Fa
theorem OK.later {E:Env} {φ:Ph} {h:aw} {w w':World} (ok:OK E φ h w) (b:Below w.heap.size w w'):OK E φ h w'∧Fr φ h w φ h w':=by
 have Hu:∀j p m,h.get j=some p→φ j=some m→m.iw<w.heap.size:=fun j p m hj hm=>by
  have Hp:=ok.live j p m hj hm
  rcases Nat.lt_or_ge m.iw w.heap.size with a | a
  · exact a
  · exfalso
    rw[Array.getElem?_eq_none a] at Hp
    exact Hp.absurd
 refine ⟨⟨ok.Dz,ok.nx,ok.yu,fun i o l h1 h2=>?_,ok.inj⟩,⟨Ph.le_refl φ,fun _ _=>rfl,Nat.le_refl _,b.os,b.tape,b.output,b.size,fun c hc _=>b.block c hc,fun i o l h1 h2 h3=> .inr ⟨i,o,l,h1,h2,h3,rfl⟩⟩⟩
 rw[b.block _ (Hu i o l h1 h2)]
 exact ok.live i o l h1 h2
end Go.Ab
end
section
namespace Go.Ab
structure Tab where
 g:Nat
 k:IntKind
 ns:List Nat
 t:TypeId
def Tab.cells (x:Tab):List AV:=x.ns.map fun n=>AV.int x.k (Int.ofNat n)
noncomputable def m3 (G:Nat):List Tab→aw
 | []=>⟨HT.nil,G,fun _=>none⟩
 | x::xs=>(m3 G xs).put x.g (some (.cells x.cells x.t true))
theorem RX (i:Nat) (G:Nat):(aw.mk HT.nil G fun _=>none).get i=none:=by
 by_cases hi:i<262144
 · rw[aw.yv hi]
   rw[Ex hi,BH,Ew]
   simp only[HT.nil,D7]
 · rw[aw.s4 hi]
theorem B9 (G:Nat):∀l,(m3 G l).nx=G
 | []=>rfl
 | _::xs=>B9 G xs
theorem tv {G:Nat}:∀{l:List Tab} {i:Nat} {o:aH},(m3 G l).get i=some o→∃x∈l,x.g=i∧o= .cells x.cells x.t true
 | [],i,o,e=>by rw[m3,RX] at e;cases e
 | x::xs,i,o,e=>by
   rw[m3] at e
   by_cases h:x.g=i
   · subst h
     rw[aw.dG] at e
     exact ⟨x,by simp,rfl,(Option.some.inj e).symm⟩
   · rw[aw.cj h] at e
     obtain ⟨y,hy,h1,h2⟩:=tv e
     exact ⟨y,by simp [hy],h1,h2⟩
def ahn (w:World) (x:Tab):Prop:=∃C e fz,w.heap[x.g]? =some (.cells C e fz)∧C.toList=x.ns.map fun n=>Value.int x.k (Int.ofNat n)
def phG (G:Nat):Ph:=fun i=>if i<G then some ⟨i,0,0⟩ else none
theorem OK.begin {E:Env} {w:World} {l:List Tab} (hl:∀x∈l,x.g<E.G∧ahn w x):OK E (phG E.G) (m3 E.G l) w:=by
 refine ⟨fun i l' h=>?_,?_,fun g hg=>?_,fun i o l' h1 h2=>?_,fun i j o p l' m _ _ h3 h4 _ h5=>?_⟩
 · unfold phG at h;rw[B9];split at h
   · assumption
   · cases h
 · rw[B9];exact Nat.le_refl _
 · unfold phG;rw[if_pos hg]
 · obtain ⟨x,hx,rfl,rfl⟩:=tv h1
   obtain ⟨hg,C,e,⟨lo,hi⟩,hw,hC⟩:=hl x hx
   unfold phG at h2;rw[if_pos hg] at h2
   obtain rfl:=Option.some.inj h2
   refine ⟨C,e,lo,hi,hw,?_,?_,(fun h=>by cases h),fun _ _ _=>rfl⟩
   · have:C.size=x.ns.length:=by rw[←Array.length_toList,hC,List.length_map]
     simp [Tab.cells,gT,this]
   · intro k y hk
     simp only[Tab.cells,List.getElem?_map,Option.map_eq_some_iff] at hk
     obtain ⟨n,hn,rfl⟩:=hk
     refine ⟨.int x.k (Int.ofNat n),?_,.int _ _⟩
     rw[Nat.zero_add,←Array.getElem?_toList,hC,List.getElem?_map,hn];rfl
 · unfold phG at h3 h4
   split at h3
   · split at h4
     · obtain rfl:=Option.some.inj h3
       obtain rfl:=Option.some.inj h4
       exact h5
     · cases h4
   · cases h3
noncomputable def Ah (o:ko):Bool:=ko.rec (motive:=fun _=>Bool) (fun v _=>Fa.kP (fun b=>b) false v) (fun _ _=>false) (fun _ _=>false) o
theorem C4 {o:ko} (h:Ah o=true):∃h',o= .ret (.bool true) h':=by
 cases o with
 | ret v h'=>
   cases v with
   | bool b=>exact ⟨h',by rw[show b=true from h]⟩
   | _=>cases h
 | panic v h'=>cases h
 | fail _ _=>cases h
end Go.Ab
end
section
namespace Go.Ab
variable {E:Env}
noncomputable def xe (E:Env) (call:bm) (fuel:Nat) (fn:Func) (p:Option AV) (s:St):ko:=match dv (jr E call fuel) s.ds p s.h with
 | none=> .fail "unwind" none
 | some (some v,h')=> .panic v h'
 | some (none,h')=>match lZ E h' s.ts fn.results.toList with
   | some vs=> .ret (je vs) h'
   | none=> .fail "results" none
noncomputable def C5 (E:Env) (call:bm) (fuel:Nat) (f:FuncId) (args:List AV) (h:aw):ko:=match E.P.funcs[f]? with
 | none=> .fail "no function" none
 | some fn=>match fn.body with
   | none=> .fail ("no body " ++fn.name) none
   | some b=>match pj E call fuel fn b args h .no with
     | .ok .normal s=>xe E call fuel fn none s
     | .ok .ret s=>xe E call fuel fn none s
     | .ok (.panic v) s=>xe E call fuel fn (some v) s
     | .ok (.exit _) _=> .fail "exit" none
     | .fail why o=> .fail (why++ " in " ++fn.name) o
theorem qQ (hE:l6 E) (fuel:Nat) {call:bm} (ih:ju E call):(∀f args h v h',C5 E call fuel f args h= .ret v h'→mV E f args h v h')∧(∀f args h v h',C5 E call fuel f args h= .panic v h'→Rm E f args h v h'):=by
 have key:∀(f:FuncId) (args:List AV) (h:aw) (out:ko),C5 E call fuel f args h=out→(∀why q,out≠ .fail why q)→
  ∃fn c e s p,E.P.funcs[f]? =some fn∧fn.body=some c∧pj E call fuel fn c args h .no= .ok e s∧
   ((p=none∧(e= .normal∨e= .ret))∨∃v,p=some v∧e= .panic v)∧
   ((∃v h',out= .panic v h'∧dv (jr E call fuel) s.ds p s.h=some (some v,h'))∨
    ∃vs h',out= .ret (je vs) h'∧dv (jr E call fuel) s.ds p s.h=some (none,h')∧lZ E h' s.ts fn.results.toList=some vs):=by
  intro f args h out e fH
  unfold C5 at e
  split at e
  · exact absurd e.symm (fH _ _)
  rename_i fn hf
  split at e
  · exact absurd e.symm (fH _ _)
  rename_i c hb
  have fin:∀(p:Option AV) (s:St),xe E call fuel fn p s=out→
   ((∃v h',out= .panic v h'∧dv (jr E call fuel) s.ds p s.h=some (some v,h'))∨
    ∃vs h',out= .ret (je vs) h'∧dv (jr E call fuel) s.ds p s.h=some (none,h')∧lZ E h' s.ts fn.results.toList=some vs):=by
   intro p s hm
   unfold xe at hm
   split at hm
   · exact absurd hm.symm (fH _ _)
   · rename_i v h' hu;exact .inl ⟨v,h',hm.symm,hu⟩
   · rename_i h' hu
     split at hm
     · rename_i vs hv;exact .inr ⟨vs,h',hm.symm,hu,hv⟩
     · exact absurd hm.symm (fH _ _)
  split at e
  · rename_i s ig;exact ⟨fn,c,_,s,none,hf,hb,ig,.inl ⟨rfl,.inl rfl⟩,fin none s e⟩
  · rename_i s ig;exact ⟨fn,c,_,s,none,hf,hb,ig,.inl ⟨rfl,.inr rfl⟩,fin none s e⟩
  · rename_i v s ig;exact ⟨fn,c,_,s,some v,hf,hb,ig,.inr ⟨v,rfl,rfl⟩,fin (some v) s e⟩
  · exact absurd e.symm (fH _ _)
  · exact absurd e.symm (fH _ _)
 have run:∀(f:FuncId) (fn:Func) (c:Code) (args:List AV) (h:aw) (e:lY) (s:St) (p p':Option AV) (h':aw),E.P.funcs[f]? =some fn→fn.body=some c→pj E call fuel fn c args h .no= .ok e s→
  ((p=none∧(e= .normal∨e= .ret))∨∃v,p=some v∧e= .panic v)→dv (jr E call fuel) s.ds p s.h=some (p',h')→
  ∀(φ:Ph) (w:World) (vs:List Value),OK E φ h w→LR φ args vs→∀cs,∃φ' w' m' tmps todo,OK E φ' h' w'∧Fr φ h w φ' h' w'∧LR φ' s.ts tmps.toList∧
   ((p'=none∧m'= .returning)∨∃v v',p'=some v∧VR φ' v v'∧m'= .panicking [{v:=v',recovered:=false}])∧
   Steps E.P (lone (Frame.enter E.P f vs.toArray .normal) cs w) (lone {(bare f .normal).atR {tmps,defers:=[]} todo with mode:=m'} cs w'):=by
  intro f fn c args h e s p p' h' hf hb ig hp hu φ w vs ok hl cs
  obtain ⟨φ1,w1,a1,e1,x1,x2,x3,x4,x5,x6⟩:=(vw hE ih hf hb ig ok hl (kind:= .normal) (K:=fun _=>cs) ⟨rfl,fun fr hk=>by simp [tryRecover,show fr.kind= .normal from hk]⟩).is
  have MF:cur (fun _=>cs) s.rc=cs:=by cases s.rc<;>rfl
  have V2:cur (fun _=>cs) RC.no=cs:=rfl
  rw[MF] at x6
  rw[V2] at x6
  have hm:∃todo m,((p=none∧m= .returning)∨∃v v',p=some v∧VR φ1 v v'∧m= .panicking [{v:=v',recovered:=false}])∧
   Steps E.P (lone (Frame.enter E.P f vs.toArray .normal) cs w) (lone {(bare f .normal).atR a1 todo with mode:=m} cs w1):=by
   rcases hp with ⟨rfl,rfl | rfl⟩ | ⟨v,rfl,rfl⟩
   · cases x1;exact ⟨[],.returning,.inl ⟨rfl,rfl⟩,Steps.trans x6 (.one (stepR_end rfl))⟩
   · cases x1;obtain ⟨todo,hs⟩:=x6;exact ⟨_,.returning,.inl ⟨rfl,rfl⟩,Steps.trans hs (.one (stepR_ret rfl))⟩
   · cases x1 with
     | panic _ v' hv=>obtain ⟨todo,hs⟩:=x6;exact ⟨todo,_,.inr ⟨v,v',rfl,hv,rfl⟩,hs⟩
  obtain ⟨todo,m,hmp,vb⟩:=hm
  obtain ⟨φ2,w2,m2,EV,f2,V1,hs2⟩:=lu hE ih s.ds hu (fr:={(bare f .normal).atR a1 todo with mode:=m}) (cs:=cs) x3 x2.ds (by
   rcases hmp with ⟨e,em⟩ | ⟨v,v',e,hv,em⟩
   · exact .inl ⟨e,em⟩
   · exact .inr ⟨v,v',e,hv,em⟩)
  exact ⟨φ2,w2,m2,a1.tmps,todo,EV,x4.trans f2,x2.ts.mono f2.ext,V1,Steps.trans vb hs2⟩
 refine ⟨fun f args h v h' e=>?_,fun f args h v h' e=>?_⟩
 · obtain ⟨fn,c,e1,s,p,hf,hb,ig,hp,rN⟩:=key f args h _ e (by simp)
   rcases rN with ⟨v1,h1,he,_⟩ | ⟨vs1,h1,he,hu,HE⟩
   · simp at he
   · simp at he;obtain ⟨rfl,rfl⟩:=he
     intro φ w vs ok hl
     refine ⟨enters hE hf hb _ w,fun cs=>?_⟩
     obtain ⟨φ',w',m',tmps,todo,uy,fr,ht,hm,hs⟩:=run f fn c args h e1 s p none h' hf hb ig hp hu φ w vs ok hl cs
     obtain ⟨v',hv,jf⟩:=vv uy ht HE
     rcases hm with ⟨_,rfl⟩ | ⟨v,v'',e,_⟩
     · exact ⟨φ',w',v',_,hv,uy,fr,hs,rfl,rfl,rfl,rfl,fn,hf,jf⟩
     · simp at e
 · obtain ⟨fn,c,e1,s,p,hf,hb,ig,hp,rN⟩:=key f args h _ e (by simp)
   rcases rN with ⟨v1,h1,he,hu⟩ | ⟨vs1,h1,he,_⟩
   · simp at he;obtain ⟨rfl,rfl⟩:=he
     intro φ w vs ok hl
     refine ⟨enters hE hf hb _ w,fun cs=>?_⟩
     obtain ⟨φ',w',m',tmps,todo,uy,fr,ht,hm,hs⟩:=run f fn c args h e1 s p (some v) h' hf hb ig hp hu φ w vs ok hl cs
     rcases hm with ⟨e,_⟩ | ⟨v2,v',e,hv,rfl⟩
     · simp at e
     · simp at e;subst e
       exact ⟨φ',w',v',_,hv,uy,fr,hs,rfl,rfl,rfl,fn,hf⟩
   · simp at he
namespace Fa
abbrev Nd:=FuncId→List AV→aw→Option (AV×aw)
def Kt (E:Env) (M:Nd):Prop:=∀f args h v h',M f args h=some (v,h')→mV E f args h v h'
noncomputable def Nf (nx:Nat) (l:List (Nat×aH)):aw:=List.rec (motive:=fun _=>aw) ⟨HT.nil,nx,fun _=>none⟩ (fun x _ h=>h.put x.1 (some x.2)) l
theorem IP {nx:Nat}:∀{l:List (Nat×aH)} {i:Nat} {o:aH},(Nf nx l).get i=some o→(i,o)∈l
 | [],i,o,e=>by
   have e:(aw.mk HT.nil nx fun _=>none).get i=some o:=e
   by_cases hi:i<262144
   · rw[aw.yv hi] at e
     have e:(hp i).get HT.nil=some o:=e
     rw[Ex hi,BH,Ew] at e
     simp only[HT.nil,D7] at e
     cases e
   · rw[aw.s4 hi] at e;cases e
 | x::xs,i,o,e=>by
   have e:((Nf nx xs).put x.1 (some x.2)).get i=some o:=e
   by_cases h:x.1=i
   · subst h
     rw[aw.dG] at e
     cases e;simp
   · rw[aw.cj h] at e
     exact List.mem_cons_of_mem _ (IP e)
structure Ent where
 f:FuncId
 args:List AV
 nx:Nat
 K:List (Nat×aH)
 v:AV
 nx':Nat
 K':List (Nat×aH)
end Fa
end Go.Ab
end
section
namespace Go.Ab
variable {E:Env}
theorem LR.Ai {φ φ':Ph} {xs:List AV} {ys zs:List Value} (h:LR φ xs ys) (h':LR φ' xs zs) (ih:∀(i:Nat) (x:AV) (y z:Value),xs[i]? =some x→ys[i]? =some y→zs[i]? =some z→VR φ x z):LR φ xs zs:=by
 refine ⟨h'.1,fun i x z hx hz=>?_⟩
 have hi:i<xs.length:=(List.getElem?_eq_some_iff.1 hx).1
 have:i<ys.length:=by rw[←h.1];exact hi
 exact ih i x ys[i] z hx (by simp [this]) hz
theorem VR.back {φ φ':Ph} (hle:φ.le φ') {x:AV} {y:Value} (h:VR φ x y):∀{z:Value},VR φ' x z→VR φ x z:=by
 induction h with
 | bool b=>intro z h;cases h;exact .bool b
 | int k n=>intro z h;cases h;exact .int k n
 | str s=>
   intro z h
   generalize he:AV.str s.data.toList=q at h
   cases h with
   | str s'=>exact .str s'
   | _=>cases he
 | ic=>intro z h;cases h;exact .ic
 | ptr o h=>intro z h';cases h' with | ptr _ h'=>rw[hle _ _ h] at h';cases h';exact .ptr o h
 | aD=>intro z h;cases h;exact .aD
 | slice o len cap op h=>intro z h';cases h' with | slice _ _ _ _ h'=>rw[hle _ _ h] at h';cases h';exact .slice o len cap op h
 | fm a cap=>intro z h;cases h;exact .fm _ _
 | eY=>intro z h;cases h;exact .eY
 | map h=>intro z h';cases h' with | map h'=>rw[hle _ _ h] at h';cases h';exact .map h
 | func f a b a' b' la lb ha hb iha ihb=>
   intro z h
   obtain ⟨c,d,rfl,hc,hd⟩:=VR.Et h
   have h1:LR φ a c.toList:=LR.Ai (ys:=a'.toList) ⟨by simpa using la,fun i x y p q=>ha i x y p (by simpa using q)⟩ hc fun i x y z p q r=>iha i x y p (by simpa using q) (hc.2 i x z p r)
   have h2:LR φ b d.toList:=LR.Ai (ys:=b'.toList) ⟨by simpa using lb,fun i x y p q=>hb i x y p (by simpa using q)⟩ hd fun i x y z p q r=>ihb i x y p (by simpa using q) (hd.2 i x z p r)
   have:=VR.Vk f h1 h2
   simpa using this
 | nilFunc=>intro z h;cases h;exact .nilFunc
 | yield h=>intro z h';cases h' with | yield h'=>rw[hle _ _ h] at h';cases h';exact .yield h
 | iface t v v' h ih=>intro z h';cases h' with | iface _ _ _ h'=>exact .iface t v _ (ih h')
 | nilIface=>intro z h;cases h;exact .nilIface
 | agg cs j4 hl h ih=>
   intro z h'
   obtain ⟨d,rfl,hd⟩:=VR.lr h'
   have h1:LR φ cs d.toList:=LR.Ai (ys:=j4.toList) ⟨by simpa using hl,fun i x y p q=>h i x y p (by simpa using q)⟩ hd fun i x y z p q r=>ih i x y p (by simpa using q) (hd.2 i x z p r)
   have:=VR.Th h1
   simpa using this
 | any v h=>intro z h';cases h' with | any _ h'=>exact .any _ h'
 | tuple cs j4 hl h ih=>
   intro z h'
   obtain ⟨d,rfl,hd⟩:=VR.Is h'
   have h1:LR φ cs d.toList:=LR.Ai (ys:=j4.toList) ⟨by simpa using hl,fun i x y p q=>h i x y p (by simpa using q)⟩ hd fun i x y z p q r=>ih i x y p (by simpa using q) (hd.2 i x z p r)
   have:=VR.tuple' h1
   simpa using this
theorem LR.back {φ φ':Ph} (hle:φ.le φ') {xs:List AV} {ys zs:List Value} (h:LR φ xs ys) (h':LR φ' xs zs):LR φ xs zs:=
 LR.Ai h h' fun i x y z p q r=>(h.2 i x y p q).back hle (h'.2 i x z p r)
theorem OR.back {φ φ':Ph} (hle:φ.le φ') {o:aH} {l:Loc} {x z:Option Obj} (h:OR E φ o l x) (h':OR E φ' o l z):OR E φ o l z:=by
 cases o with
 | cells cs e ro=>
   obtain ⟨C,e1,lo,hi,_,hc⟩:=h
   obtain ⟨D,e2,O',JO,hz,hd⟩:=h'
   refine ⟨D,e2,O',JO,hz,hd.size,fun k x hk=>?_,hd.free,hd.zero⟩
   obtain ⟨y,_,hy⟩:=hc.val k x hk
   obtain ⟨y',h1,hy'⟩:=hd.val k x hk
   exact ⟨y',h1,hy.back hle hy'⟩
 | map es clock=>
   obtain ⟨_,es1,_,hl,hv⟩:=h
   obtain ⟨h0,es2,hz,hl',hv'⟩:=h'
   refine ⟨h0,es2,hz,hl',fun i x y hx hy=>?_⟩
   have hi:i<es.length:=(List.getElem?_eq_some_iff.1 hx).1
   have:i<es1.toList.length:=by rw[←hl];exact hi
   have a:=hv i x _ hx (List.getElem?_eq_getElem this)
   have b:=hv' i x y hx hy
   exact ⟨a.key.back hle b.key,a.val.back hle b.val,b.born⟩
 | xM s pos=>exact h'
 | Eo m since seen sW=>
   cases m with
   | none=>exact h'
   | some m=>
     obtain ⟨_,lm,hm,_⟩:=h
     obtain ⟨h0,lm',ZU,hz⟩:=h'
     rw[hle _ _ hm] at ZU;cases ZU
     exact ⟨h0,lm,hm,hz⟩
 | loop st pd ts ps as bd dn=>
   obtain ⟨_,r,_,hr⟩:=h
   obtain ⟨h0,r',hz,Vv⟩:=h'
   obtain ⟨ld,hd,_⟩:=hr.defers
   obtain ⟨ld',hd',OW⟩:=Vv.defers
   rw[hle _ _ hd] at hd';cases hd'
   exact ⟨h0,r',hz,Vv.state,Vv.pending,hr.tmps.back hle Vv.tmps,Vv.params,Vv.assign,Vv.body,⟨ld,hd,OW⟩,Vv.fn⟩
 | Te=>exact h'
def Has (h h':aw):Prop:=∀i o,h.get i=some o→h'.get i=some o
theorem Has.refl (h:aw):Has h h:=fun _ _ e=>e
theorem Has.trans {a b c:aw} (x:Has a b) (y:Has b c):Has a c:=fun i o e=>y i o (x i o e)
theorem OK.forget {φ φ':Ph} {h h':aw} {w w':World} (ok:OK E φ h w) (hle:φ.le φ') (uy:OK E φ' h' w') (hs:Has h h'):OK E φ h w' where
 Dz:=ok.Dz
 nx:=ok.nx
 yu:=ok.yu
 live i o l a b:=(ok.live i o l a b).back hle (uy.live i o l (hs i o a) (hle _ _ b))
 inj:=ok.inj
theorem Fr.forget {φ φ':Ph} {h h':aw} {w w':World} (f:Fr φ h w φ' h' w'):Fr φ h w φ h w' where
 ext:=Ph.le_refl φ
 old _ _:=rfl
 nx:=Nat.le_refl _
 os:=f.os
 tape:=f.tape
 output:=f.output
 size:=f.size
 Hs:=f.Hs
 own i o l a b c:= .inr ⟨i,o,l,a,b,c,rfl⟩
def AV.plain:Nat→AV→Bool
 | 0,_=>false
 | n+1,x=>match x with
   | .bool _ | .int .. | .str _ | .ic | .aD | .eY | .nilFunc | .nilIface=>true
   | .iface _ v=>AV.plain n v
   | .agg cs=>cs.all (AV.plain n)
   | .tuple cs=>cs.all (AV.plain n)
   | _=>false
theorem VR.plain {φ φ':Ph}:∀(n:Nat) {x:AV} (_:AV.plain n x=true) {y:Value},VR φ' x y→VR φ x y
 | 0,_,h,_,_=>by cases h
 | n+1,x,h,y,hv=>by
   have ih:= @VR.plain φ φ' n
   cases hv with
   | bool b=>exact .bool b
   | int k m=>exact .int k m
   | str s=>exact .str s
   | ic=>exact .ic
   | aD=>exact .aD
   | eY=>exact .eY
   | nilFunc=>exact .nilFunc
   | nilIface=>exact .nilIface
   | iface t v v' h'=>exact .iface t v v' (ih (by simpa [AV.plain] using h) h')
   | agg cs j4 hl hc=>
     refine .agg cs j4 hl fun i x y a b=>ih ?_ (hc i x y a b)
     simp only[AV.plain,List.all_eq_true] at h
     exact h x (List.mem_of_getElem? a)
   | tuple cs j4 hl hc=>
     refine .tuple cs j4 hl fun i x y a b=>ih ?_ (hc i x y a b)
     simp only[AV.plain,List.all_eq_true] at h
     exact h x (List.mem_of_getElem? a)
   | _=>cases h
theorem mV.closed {f:FuncId} {args:List AV} {h':aw} {v:AV} (r:mV E f args (Fa.Nf E.G []) v h') (ha:args.all (AV.plain 20)=true) (hv:AV.plain 20 v=true) (h:aw):mV E f args h v h:=fun φ w vs ok hl=>by
 let φ0:Ph:=fun i=>if i<E.G then φ i else none
 have hle:φ0.le φ:=fun i l e=>by
  simp only[φ0] at e
  split at e
  · exact e
  · cases e
 have WT:∀{i o},(Fa.Nf E.G []).get i=some o→False:=fun e=>by cases Fa.IP e
 have ok0:OK E φ0 (Fa.Nf E.G []) w:=by
  refine ⟨fun i l e=>?_,Nat.le_refl _,fun g hg=>?_,fun i o l e=>(WT e).elim,fun i j o p l m e=>(WT e).elim⟩
  · simp only[φ0] at e
    split at e
    · assumption
    · cases e
  · simp only[φ0,hg,if_true];exact ok.yu g hg
 have hl0:LR φ0 args vs:=⟨hl.1,fun i x y a b=>(hl.2 i x y a b).plain 20 (List.all_eq_true.1 ha x (List.mem_of_getElem? a))⟩
 obtain ⟨h1,h2⟩:=r φ0 w vs ok0 hl0
 refine ⟨h1,fun cs=>?_⟩
 obtain ⟨φ',w',v',fr,x1,x2,x3,x4⟩:=h2 cs
 have ade:∀b,b<w.heap.size→w'.heap[b]? =w.heap[b]? :=fun b hb=>x3.Hs b hb fun i o l e=>(WT e).elim
 refine ⟨φ,w',v',fr,x1.plain 20 hv,⟨ok.Dz,ok.nx,ok.yu,fun i o l a b=>?_,ok.inj⟩,⟨Ph.le_refl φ,fun _ _=>rfl,Nat.le_refl _,x3.os,x3.tape,x3.output,x3.size,fun b hb _=>ade b hb,fun i o l a b c=> .inr ⟨i,o,l,a,b,c,rfl⟩⟩,x4⟩
 have hr:=ok.live i o l a b
 by_cases hb:l.iw<w.heap.size
 · rw[ade _ hb];exact hr
 · rw[Array.getElem?_eq_none (by omega)] at hr
   exact hr.absurd.elim
end Go.Ab
end
