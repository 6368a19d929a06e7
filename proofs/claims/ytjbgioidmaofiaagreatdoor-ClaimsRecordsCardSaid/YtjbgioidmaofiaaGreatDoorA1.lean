import Derived.Laws.StructEq
import Derived.Laws.Slices
import Derived.Laws.Strings
import Derived.ChangeKeysEq
import Derived.Deep.MidRow
import Derived.Lib.Strings
import Derived.IntWalk
import Derived.Test.YtjbgioidmaofiaaGreatDoorA0
set_option linter.unusedVariables false
set_option linter.unusedSimpArgs false
section
namespace Go.Ab
variable {E:Env}
def GL (E:Env) (φ:Ph):Prop:=∀g,g<E.G→φ g=some ⟨g,0,0⟩
theorem jD {φ:Ph} (hg:GL E φ) {ts:List AV} {a:Act} (ht:LR φ ts a.tmps.toList) {x:Operand} {v:AV} (h:cx E ts x=some v):VR φ v (a.eval x):=by
 cases x with
 | tmp t=>
   simp only[cx,Option.some.injEq] at h;subst h
   have:=ht.getD (VR.undef φ) t
   rw[show a.eval (.tmp t)=a.tmps.toList.getD t undef by simp [Act.eval,Array.getD_eq_getD_getElem?,List.getD]]
   exact this
 | const c=>exact uY φ h
 | global g=>
   simp only[cx] at h
   split at h
   · rename_i iv;simp at h;subst h;have:=VR.ptr 0 (hg g iv);simpa [Act.eval] using this
   · simp at h
 | func f=>simp [cx] at h;subst h;exact VR.JN (a':=[]) (b':=[]) f (LR.nil φ) (LR.nil φ)
theorem eP {φ:Ph} (hg:GL E φ) {ts:List AV} {a:Act} (ht:LR φ ts a.tmps.toList) {l:List Operand} {r:List AV} (h:dJ E ts l=some r):LR φ r (l.map a.eval):=by
 obtain ⟨hl,hv⟩:=n4 h
 refine ⟨by simp [hl],fun i x y hx hy=>?_⟩
 simp at hy
 obtain ⟨o,ho,rfl⟩:=hy
 obtain ⟨z,hz,he⟩:=hv i o ho
 rw[hx] at hz;simp at hz;subst hz
 exact jD hg ht he
theorem cM {P:Program} {t:TypeId} {n:Nat} (h:(P.info? t).map (·.size)=some n) (w:World):(sizeOf t).run P w= .ok n w:=by
 cases hq:P.info? t with
 | none=>simp [hq] at h
 | some i=>simp [hq] at h;simp [sizeOf,typeInfo,hq,h]
theorem mc {P:Program} {t:TypeId} {n:Nat} (h:(P.info? t).map (·.bytes)=some n) (w:World):∃i,(typeInfo t).run P w= .ok i w∧i.bytes=n:=by
 cases hq:P.info? t with
 | none=>simp [hq] at h
 | some i=>simp [hq] at h;exact ⟨i,by simp [typeInfo,hq],h⟩
theorem eQ {t:TypeId} {z:AV} (h:cO E t=some z):∃z',(∀φ,VR φ z z')∧∀w,(zeroValue t).run E.P w= .ok z' w:=by
 unfold cO at h
 split at h
 · rename_i i hi
   split at h
   · rename_i z' hz
     exact ⟨z',fun φ=>uY φ h,fun w=>by simp [zeroValue,typeInfo,hi,hz]⟩
   · simp at h
 · simp at h
theorem mJ {t:TypeId} {b:Bool} (h:dk E t=some b) (w:World):(isAgg t).run E.P w= .ok b w:=by
 unfold dk at h
 unfold isAgg
 rw[Sem.run_bind]
 split at h<;>rename_i hu<;>simp at h
 · subst h;rw[run_underlying hu];rfl
 · subst h;rw[run_underlying hu];rfl
 · rename_i d h1 h2
   subst h;rw[run_underlying hu]
   cases d<;>first | rfl | (exact absurd rfl (h1 _)) | (exact absurd rfl (h2 _ _))
theorem toArray_extract (l:List Value) (a b:Nat):l.toArray.extract a b=((l.drop a).take (b - a)).toArray:=by simp
theorem j7 {φ:Ph} {t:TypeId} {cs:List AV} {eE:List Value} (hc:LR φ cs eE) {off:Nat} {v:AV} (h:fG E t cs off=some v):
 ∃v',VR φ v v'∧∀w,(part t eE.toArray off).run E.P w= .ok v' w:=by
 unfold fG at h
 split at h
 · rename_i ha
   split at h
   · rename_i n hn
     split at h
     · simp at h;subst h
       refine ⟨.agg ((eE.drop off).take n).toArray,VR.Ib ((hc.drop off).take n),fun w=>?_⟩
       simp only[part,Sem.run_bind,mJ ha,Result.andThen_ok,if_true,cM hn,Sem.run_pure,toArray_extract,Nat.add_sub_cancel_left]
     · simp at h
   · simp at h
 · rename_i ha
   obtain ⟨y,hy,hv⟩:=hc.get h
   refine ⟨y,hv,fun w=>?_⟩
   simp only[part,Sem.run_bind,mJ ha,Result.andThen_ok,Bool.false_eq_true,if_false]
   have:eE.toArray[off]? =some y:=by simpa using hy
   simp [this]
 · simp at h
theorem bytes_beq (a b:ByteArray):(a.toList==b.toList)=(a.data.toList==b.data.toList):=by rw[ByteArray.toList_eq,ByteArray.toList_eq]
set_option linter.unusedSimpArgs false in
theorem EW {φ:Ph} {op:BinOp} {k:IntKind} {x y:Int} {v:AV} (h:bW op k x y=some v) (hs:op≠ .shl) (mK:op≠ .shr) (t:TypeId):
 ∃v',VR φ v v'∧∀w,(binOp op t (.int k x) (.int k y)).run E.P w= .ok v' w:=by
 unfold bW at h
 split at h
 all_goals first
  | (simp at h;subst h;exact ⟨_,.int _ _,fun w=>by simp [binOp,Op.intArith,Op.intBits,Op.intCmp]⟩)
  | (simp at h;subst h;exact ⟨_,.bool _,fun w=>by simp [binOp,Op.intArith,Op.intBits,Op.intCmp]⟩)
  | (split at h
     · simp at h
     · rename_i hy
       simp at h;subst h;exact ⟨_,.int _ _,fun w=>by simp [binOp,Op.intDiv,hy]⟩)
  | simp at h
set_option linter.unusedSimpArgs false in
theorem EX {φ:Ph} {op:BinOp} {x y:ByteArray} {v:AV} (h:mF op x.data.toList y.data.toList=some v) (t:TypeId):
 ∃v',VR φ v v'∧∀w,(binOp op t (.string x) (.string y)).run E.P w= .ok v' w:=by
 unfold mF at h
 split at h
 · split at h
   · rename_i iv
     simp at h;subst h
     refine ⟨.string (x++y),?_,fun w=>?_⟩
     · have:=VR.str (φ:=φ) (x++y);simpa using this
     · have ab8:x.size+y.size<1099511627776:=by
        have e:∀b:ByteArray,b.size=b.data.toList.length:=fun b=>by cases b;rfl
        rw[e,e];exact iv
       have hm:IntKind.i64.max=9223372036854775807:=by decide
       have:¬((x.size+y.size:Nat):Int) >IntKind.i64.max:=by rw[hm];omega
       simp only[binOp,Op.stringOp,this,if_false,Sem.run_pure]
   · simp at h
 all_goals first
  | (simp only[Option.some.injEq] at h;subst h;exact ⟨_,.bool _,fun w=>by simp only[binOp,Op.stringOp,bytes_beq,ByteArray.toList_eq,Sem.run_pure]⟩)
  | simp at h
theorem yV {φ:Ph} {t:TypeId} {x y:AV} {r:Bool} (h:Ia E t x y=some r) {x' y':Value} (hx:VR φ x x') (hy:VR φ y y') (dd:Nat):
 ∀w,(Op.equalIn (dd+1) t x' y').run E.P w= .ok r w:=by
 intro w
 unfold Ia at h
 split at h<;>(try (simp at h;done))
 all_goals
  rename_i hd
  split at h<;>(try (simp at h;done))
  all_goals
   simp only[Option.some.injEq] at h
   subst h
   unfold Op.equalIn
   rw[Sem.run_bind,run_underlying hd]
   cases hx<;>cases hy<;>rfl
theorem Cd {φ:Ph} {t:TypeId} {x y:AV} {r:Bool} (h:Ia E t x y=some r) {x' y':Value} (hx:VR φ x x') (hy:VR φ y y'):
 ∀w,(Op.equal t x' y').run E.P w= .ok r w:=yV h hx hy 9999
theorem lP {φ:Ph} {eq:TypeId→AV→AV→Option Bool} {d:Nat} (heq:∀t a b r a' b',eq t a b=some r→VR φ a a'→VR φ b b'→∀w,(Op.equalIn d t a' b').run E.P w= .ok r w)
 {xs ys:List AV} {uP sx:Array Value} (hx:LR φ xs uP.toList) (hy:LR φ ys sx.toList):∀{fs:List Field} {r:Bool} (_:j4 E eq xs ys fs=some r) (w:World),(Op.eqFields d uP sx fs).run E.P w= .ok r w
 | [],r,h,w=>by simp [j4] at h;subst h;rfl
 | f::fs,r,h,w=>by
   simp only[j4] at h
   unfold Op.eqFields
   split at h
   · rename_i hn
     rw[if_neg (by simp [hn])]
     exact lP heq hx hy h w
   · rename_i hn
     rw[if_pos hn]
     split at h
     · rename_i a b ha hb
       obtain ⟨a',hva,Y6⟩:=j7 hx ha
       obtain ⟨b',hvb,Y7⟩:=j7 hy hb
       rw[Array.toArray_toList] at Y6 Y7
       split at h
       · rename_i he
         have:=lP heq hx hy h w
         simp [Sem.run_bind,Y6,Y7,heq _ _ _ _ _ _ he hva hvb,this]
       · rename_i he
         simp at h;subst h
         simp [Sem.run_bind,Y6,Y7,heq _ _ _ _ _ _ he hva hvb]
       · simp at h
     · simp at h
theorem kh {φ:Ph}:∀(n d:Nat) (t:TypeId) (a b:AV) (r:Bool) (a' b':Value) (_:jA E n t a b=some r) (_:VR φ a a') (_:VR φ b b') (w:World),(Op.equalIn (d+n) t a' b').run E.P w= .ok r w
 | 0,_,_,_,_,_,_,_,h,_,_,_=>by simp [jA] at h
 | n+1,d,t,a,b,r,a',b',h,ha,hb,w=>by
   rw[←Nat.add_assoc]
   unfold jA at h
   split at h
   · cases ha;cases hb
     split at h
     · rename_i hu
       split at h
       · rename_i hk;subst hk
         simp at h;subst h
         exact run_equalIn_int w (d+n) t _ _ _ _ hu
       · simp at h
     · simp at h
   · cases ha;cases hb
     split at h
     · rename_i hu
       simp only[Option.some.injEq] at h;subst h
       rw[run_equalIn_string w (d+n) t _ _ hu,ByteArray.toList_eq,ByteArray.toList_eq]
     · simp at h
   · obtain ⟨uP,rfl,Af⟩:=ha.gK
     obtain ⟨sx,rfl,pT⟩:=hb.gK
     split at h
     · rename_i fs hu
       split at h
       · rename_i eZ
         have Yd:E.P.fieldsOf t=fs:=by simp [Program.fieldsOf,hu]
         rw[run_equalIn_struct w (d+n) t uP sx (by rw[Yd];exact hu) eZ,Yd]
         exact lP (fun t a b r a' b' h1 h2 h3 w=>kh n d t a b r a' b' h1 h2 h3 w) Af pT h w
       · simp at h
     · simp at h
   · exact yV h ha hb (d+n) w
theorem tL {op:BinOp} {t:TypeId} (x y:Operand) (xs ys:Array Value) (h:E.P.eqGuardType E.P.depth t=false) (w:World):(eqGuard op t x y (.agg xs) (.agg ys)).run E.P w= .ok () w:=by
 unfold eqGuard
 cases op<;>(try rfl)
 all_goals simp [Sem.run_bind,run_program,h]
theorem p5 {op:BinOp} (h1:op≠ .eql) (h2:op≠ .neq) (t:TypeId) (x y:Operand) (a b:Value) (w:World):(eqGuard op t x y a b).run E.P w= .ok () w:=by
 unfold eqGuard;cases op<;>first | rfl | (exact absurd rfl h1) | (exact absurd rfl h2)
def Ag (xc yc:Bool):Value→Value→Bool
 | .nilIface,.nilIface=>xc||yc
 | .agg _,.agg _=>false
 | _,_=>true
theorem jh {op:BinOp} (t:TypeId) (x y:Operand) (a b:Value) (h:Ag (isConst x) (isConst y) a b=true) (w:World):
 (eqGuard op t x y a b).run E.P w= .ok () w:=by
 unfold eqGuard
 cases op<;>(try rfl)
 all_goals
  cases a<;>cases b<;>first
   | rfl
   | (simp [Ag] at h;done)
   | (cases x<;>cases y<;>first | rfl | (simp [Ag,isConst] at h;done))
theorem yW {k k':IntKind} {x y:Int} (hy:¬y<0) (t:TypeId):
 (∀w,(binOp .shl t (.int k x) (.int k' y)).run E.P w= .ok (.int k (k.wrap (x*2^(min y.toNat k.bits)))) w)∧
 (∀w,(binOp .shr t (.int k x) (.int k' y)).run E.P w= .ok (.int k (x.fdiv (2^(min y.toNat k.bits)))) w):=by
 constructor<;>intro w<;>simp [binOp,Op.shift,hy]
theorem vc {φ:Ph} {a b:AV} {a' b':Value} (hx:VR φ a a') (hy:VR φ b b') {xo yo:Operand} (h:lA (isConst xo) (isConst yo) a b=true):
 Ag (isConst xo) (isConst yo) a' b'=true:=by
 cases hx<;>cases hy<;>first | rfl | exact h | (simp [lA] at h;done)
def hQ:Value→Prop
 | .float _ _ | .complex _ _ _=>False
 | _=>True
theorem VR.hQ {φ:Ph} {a:AV} {a':Value} (h:VR φ a a'):Ab.hQ a':=by
 cases h with
 | any _ h=>cases a'<;>first | exact trivial | cases h
 | _=>exact trivial
theorem binOp_eql (t:TypeId) {a b:Value} (h1:∀k m k' m',a= .int k m→b= .int k' m'→False) (h2:∀k m,a= .string k→b= .string m→False) (h3:hQ a) (h4:hQ b):
 binOp .eql t a b=(do pure (.bool (←Op.equal t a b)):Sem Value):=by
 unfold binOp
 split<;>first
  | rfl
  | contradiction
  | (exact (h1 _ _ _ _ rfl rfl).elim)
  | (exact (h2 _ _ rfl rfl).elim)
  | (exact h3.elim)
  | (exact h4.elim)
  | (exfalso;simp_all;done)
theorem binOp_neq (t:TypeId) {a b:Value} (h1:∀k m k' m',a= .int k m→b= .int k' m'→False) (h2:∀k m,a= .string k→b= .string m→False) (h3:hQ a) (h4:hQ b):
 binOp .neq t a b=(do pure (.bool (!(←Op.equal t a b))):Sem Value):=by
 unfold binOp
 split<;>first
  | rfl
  | contradiction
  | (exact (h1 _ _ _ _ rfl rfl).elim)
  | (exact (h2 _ _ rfl rfl).elim)
  | (exact h3.elim)
  | (exact h4.elim)
  | (exfalso;simp_all;done)
set_option linter.unusedSimpArgs false in
theorem JW {φ:Ph} {op:BinOp} {t:TypeId} {xo yo:Operand} {a b v:AV} (h:gH E op t (isConst xo) (isConst yo) a b=some v) {a' b':Value} (hx:VR φ a a') (hy:VR φ b b'):
 ∃v',VR φ v v'∧∀w,(do eqGuard op t xo yo a' b';binOp op t a' b':Sem Value).run E.P w= .ok v' w:=by
 unfold gH at h
 split at h
 ·
  cases hx;cases hy
  split at h
  · simp at h
  · rename_i hn
    simp at h;subst h
    refine ⟨_,.int _ _,fun w=>?_⟩
    rw[Sem.run_bind,p5 (by decide) (by decide)]
    exact (yW (E:=E) hn t).1 w
 · cases hx;cases hy
   split at h
   · simp at h
   · rename_i hn
     simp at h;subst h
     refine ⟨_,.int _ _,fun w=>?_⟩
     rw[Sem.run_bind,p5 (by decide) (by decide)]
     exact (yW (E:=E) hn t).2 w
 · rename_i k x k' y h1 h2
   cases hx;cases hy
   split at h
   · rename_i hk;subst hk
     obtain ⟨v',hv,hr⟩:=EW (φ:=φ) (E:=E) h h1 h2 t
     refine ⟨v',hv,fun w=>?_⟩
     rw[Sem.run_bind,jh _ _ _ _ _ rfl]
     exact hr w
   · simp at h
 · cases hx;cases hy
   obtain ⟨v',hv,hr⟩:=EX (φ:=φ) (E:=E) h t
   refine ⟨v',hv,fun w=>?_⟩
   rw[Sem.run_bind,jh _ _ _ _ _ rfl]
   exact hr w
 ·
  split at h
  · simp at h
  · rename_i hg
    split at h
    · rename_i r hr
      simp at h;subst h
      refine ⟨_,.bool r,fun w=>?_⟩
      obtain ⟨uP,rfl,Af⟩:=hx.gK
      obtain ⟨sx,rfl,pT⟩:=hy.gK
      rw[Sem.run_bind,tL _ _ _ _ (by simpa using hg)]
      have:=kh 16 9984 t _ _ r _ _ hr hx hy w
      simp only[Result.andThen_ok]
      rw[binOp_eql (a:= .agg uP) (b:= .agg sx) t (fun _ _ _ _ e=>by simp at e) (fun _ _ e=>by simp at e) trivial trivial,Sem.run_bind]
      rw[show (Op.equal t (.agg uP) (.agg sx)).run E.P w= .ok r w from this];rfl
    · simp at h
 · split at h
   · simp at h
   · rename_i hg
     split at h
     · rename_i r hr
       simp at h;subst h
       refine ⟨_,.bool (!r),fun w=>?_⟩
       obtain ⟨uP,rfl,Af⟩:=hx.gK
       obtain ⟨sx,rfl,pT⟩:=hy.gK
       rw[Sem.run_bind,tL _ _ _ _ (by simpa using hg)]
       have:=kh 16 9984 t _ _ r _ _ hr hx hy w
       simp only[Result.andThen_ok]
       rw[binOp_neq (a:= .agg uP) (b:= .agg sx) t (fun _ _ _ _ e=>by simp at e) (fun _ _ e=>by simp at e) trivial trivial,Sem.run_bind]
       rw[show (Op.equal t (.agg uP) (.agg sx)).run E.P w= .ok r w from this];rfl
     · simp at h
 · rename_i h1 h2 _
   split at h
   · rename_i hg
     split at h
     · rename_i r hr
       simp at h;subst h
       refine ⟨_,.bool r,fun w=>?_⟩
       rw[Sem.run_bind,jh _ _ _ _ _ (vc hx hy hg)]
       have:=Cd hr hx hy w
       simp only[Result.andThen_ok]
       rw[binOp_eql t (fun k m k' m' e e'=>by subst e;subst e';cases hx<;>cases hy<;>first | exact h1 _ _ _ _ rfl rfl | (simp [lA] at hg;done)) (fun k m e e'=>by subst e;subst e';cases hx<;>cases hy<;>first | exact h2 _ _ rfl rfl | (simp [lA] at hg;done)) (VR.hQ hx) (VR.hQ hy)]
       rw[Sem.run_bind,this];rfl
     · simp at h
   · simp at h
 · rename_i h1 h2 _
   split at h
   · rename_i hg
     split at h
     · rename_i r hr
       simp at h;subst h
       refine ⟨_,.bool (!r),fun w=>?_⟩
       rw[Sem.run_bind,jh _ _ _ _ _ (vc hx hy hg)]
       have:=Cd hr hx hy w
       simp only[Result.andThen_ok]
       rw[binOp_neq t (fun k m k' m' e e'=>by subst e;subst e';cases hx<;>cases hy<;>first | exact h1 _ _ _ _ rfl rfl | (simp [lA] at hg;done)) (fun k m e e'=>by subst e;subst e';cases hx<;>cases hy<;>first | exact h2 _ _ rfl rfl | (simp [lA] at hg;done)) (VR.hQ hx) (VR.hQ hy)]
       rw[Sem.run_bind,this];rfl
     · simp at h
   · simp at h
 · simp at h
end Go.Ab
end
section
namespace Go.Ab
variable {E:Env}
theorem Oq {φ:Ph} {op:UnOp} {x v:AV} (h:Uz op x=some v) {x':Value} (hx:VR φ x x'):∃v',VR φ v v'∧∀w,(Op.unary op x').run E.P w= .ok v' w:=by
 unfold Uz at h
 split at h
 · cases hx;simp at h;subst h;exact ⟨_,.int _ _,fun w=>by simp [Op.unary,Op.intArith]⟩
 · cases hx;simp at h;subst h;exact ⟨_,.int _ _,fun w=>by simp [Op.unary,Op.intBits]⟩
 · cases hx;simp at h;subst h;exact ⟨_,.bool _,fun w=>by simp [Op.unary]⟩
 · simp at h
theorem qo {φ:Ph} {x:AV} {y n:Nat} (h:ka x y=some n) {x':Value} (hx:VR φ x x') {y':Nat} (hy:y≤y') (code:BoundsCode):
 (∀w,(Instr.sliceBound x' y' code).run E.P w= .ok n w)∧n≤y:=by
 unfold ka at h
 split at h
 · split at h
   · rename_i hc
     cases hx
     simp at h;subst h
     refine ⟨fun w=>?_,by omega⟩
     simp only[Instr.sliceBound,asIntOf,Sem.run_bind,Sem.run_pure,Result.andThen_ok]
     rw[if_pos (by omega)];rfl
   · simp at h
 · simp at h
def EY (φ:Ph):Option AV→Option Value→Prop
 | none,none=>True
 | some x,some y=>VR φ x y
 | _,_=>False
theorem vd (Sk:Bool) (len sG:Nat) (EZ Ah yn:Option Value):Instr.sliceBounds Sk len sG EZ Ah yn=(do
 let m←(match yn with | some v=>Instr.sliceBound v sG (if Sk then .slice3Acap else .slice3Alen) | none=>pure sG:Sem Nat)
 let h←(match Ah,yn with | some v,some _=>Instr.sliceBound v m .slice3B | some v,none=>Instr.sliceBound v m (if Sk then .sliceAcap else .sliceAlen) | none,none=>pure len | none,some _=>stuck "Slice: max without high" :Sem Nat)
 let l←(match EZ with | some v=>Instr.sliceBound v h (if yn.isSome then .slice3C else .sliceB) | none=>pure 0:Sem Nat)
 pure (l,h,m)):=by
 unfold Instr.sliceBounds
 cases yn<;>cases Ah<;>cases EZ<;>rfl
theorem lC {φ:Ph} {len cap:Nat} {lo hi mx:Option AV} {l h m:Nat} (e:hZ len cap lo hi mx=some (l,h,m)) {EZ Ah yn:Option Value}
 (N3:EY φ lo EZ) (N4:EY φ hi Ah) (Ot:EY φ mx yn) {sG:Nat} (hc:cap≤sG) (Sk:Bool) (hlen:len≤cap):
 (∀w,(Instr.sliceBounds Sk len sG EZ Ah yn).run E.P w= .ok (l,h,if mx.isNone then sG else m) w)∧l≤h∧h≤m∧m≤cap∧(mx=none→m=cap):=by
 unfold hZ at e
 split at e
 · simp at e
 rename_i m0 Ve
 have hm:(∀w,(match yn with | some v=>Instr.sliceBound v sG (if Sk then .slice3Acap else .slice3Alen) | none=>pure sG:Sem Nat).run E.P w= .ok (if mx.isNone then sG else m0) w)∧m0≤cap∧(mx=none→m0=cap):=by
  cases mx with
  | none=>
    cases yn with
    | some _=>exact Ot.elim
    | none=>simp at Ve;subst Ve;exact ⟨fun w=>rfl,Nat.le_refl _,fun _=>rfl⟩
  | some v=>
    cases yn with
    | none=>exact Ot.elim
    | some v'=>
      have:=fun code=>qo (E:=E) Ve (show VR φ v v' from Ot) hc code
      exact ⟨(this _).1,(this .index).2,fun e=>by simp at e⟩
 split at e
 · simp at e
 rename_i h0 Ye
 have Y8:m0≤(if mx.isNone then sG else m0):=by split<;>omega
 have hh:(∀w,(match Ah,yn with | some v,some _=>Instr.sliceBound v (if mx.isNone then sG else m0) .slice3B | some v,none=>Instr.sliceBound v (if mx.isNone then sG else m0) (if Sk then .sliceAcap else .sliceAlen) | none,none=>pure len | none,some _=>stuck "Slice: max without high" :Sem Nat).run E.P w= .ok h0 w)∧h0≤m0:=by
  cases hi with
  | none=>
    cases Ah with
    | some _=>exact N4.elim
    | none=>
      cases mx with
      | some _=>simp at Ye
      | none=>
        cases yn with
        | some _=>exact Ot.elim
        | none=>simp at Ye;subst Ye;exact ⟨fun w=>rfl,by have:=hm.2.2 rfl;omega⟩
  | some v=>
    cases Ah with
    | none=>exact N4.elim
    | some v'=>
      have:=fun code=>qo (E:=E) Ye (show VR φ v v' from N4) Y8 code
      cases yn with
      | none=>exact ⟨(this _).1,(this .index).2⟩
      | some _=>exact ⟨(this _).1,(this .index).2⟩
 split at e
 · simp at e
 rename_i l0 N5
 simp at e
 obtain ⟨rfl,rfl,rfl⟩:=e
 have hl:(∀w,(match EZ with | some v=>Instr.sliceBound v h0 (if yn.isSome then .slice3C else .sliceB) | none=>pure 0:Sem Nat).run E.P w= .ok l0 w)∧l0≤h0:=by
  cases lo with
  | none=>
    cases EZ with
    | some _=>exact N3.elim
    | none=>simp at N5;subst N5;exact ⟨fun w=>rfl,by omega⟩
  | some v=>
    cases EZ with
    | none=>exact N3.elim
    | some v'=>
      have:=fun code=>qo (E:=E) N5 (show VR φ v v' from N3) (Nat.le_refl _) code
      exact ⟨(this _).1,(this .index).2⟩
 refine ⟨fun w=>?_,hl.2,hh.2,hm.2.1,hm.2.2⟩
 rw[vd,Sem.run_bind,hm.1 w,Result.andThen_ok,Sem.run_bind,hh.1 w,Result.andThen_ok,Sem.run_bind,hl.1 w]
 rfl
theorem pv (b o n:Nat):(⟨b,o,none⟩:Addr).add n=⟨b,o+n,none⟩:=Addr.add_mid b o n
theorem E0 {φ:Ph} {t:TypeId} {x v:AV} {lo hi mx:Option AV} (e:cK E t x lo hi mx=some v) {x':Value} {EZ Ah yn:Option Value}
 (hx:VR φ x x') (N3:EY φ lo EZ) (N4:EY φ hi Ah) (Ot:EY φ mx yn):∃v',VR φ v v'∧∀w,(Instr.sliceAt t x' EZ Ah yn).run E.P w= .ok v' w:=by
 unfold cK at e
 split at e
 ·
  rename_i n elem i o hu
  cases hx with
  | @ptr _ l _ hφ=>
  split at e
  · rename_i l0 h0 m0 size hb hs
    simp at e;subst e
    obtain ⟨hr,h1,h2,h3,h4⟩:=lC (E:=E) hb N3 N4 Ot (Nat.le_refl n) false (Nat.le_refl n)
    have hm:(if mx.isNone then n else m0)=m0:=by
     cases mx with
     | none=>simp [h4 rfl]
     | some _=>rfl
    rw[hm] at hr
    refine ⟨_,.slice (if m0=l0 then o else o+l0*size) (h0 - l0) (m0 - l0) false hφ,fun w=>?_⟩
    simp only[Instr.sliceAt,Sem.run_bind,run_underlying hu,Result.andThen_ok,Instr.sureAddr,Sem.run_pure,hr w,cM hs,dx,Bool.false_eq_true,if_false]
    by_cases UE:m0=l0
    · simp [UE]
    · simp only[UE,if_false,pv];rw[Nat.add_assoc]
  · simp at e
 ·
  rename_i s hu
  split at e
  · rename_i l0 h0 m0 hb
    simp at e;subst e
    generalize hs:s=s0 at hx hb
    cases hx with
    | str s'=>
    subst hs
    have e1:s'.size=s'.data.toList.length:=by cases s';rfl
    cases yn with
    | some _=>exact Ot.elim
    | none=>
    obtain ⟨hr,h1,h2,h3,h4⟩:=lC (E:=E) (mx:=none) (yn:=none) hb N3 N4 trivial (Nat.le_refl _) false (Nat.le_refl _)
    refine ⟨.string (s'.extract l0 h0),?_,fun w=>?_⟩
    · have:=VR.str (φ:=φ) (s'.extract l0 h0)
      have e2:(s'.extract l0 h0).data.toList=(s'.data.toList.drop l0).take (h0 - l0):=by
       exact Lib.extract_data s' l0 h0
      rw[e2] at this;exact this
    · have JX:=hr w
      rw[←e1] at JX
      simp only[Instr.sliceAt,Instr.slice,Sem.run_bind,run_underlying hu,Result.andThen_ok,Option.isSome_none,Bool.false_eq_true,if_false,JX,Sem.run_pure]
  · simp at e
 ·
  rename_i elem hu
  cases hx
  split at e
  · rename_i r size hb hs
    simp at e;subst e
    obtain ⟨l0,h0,m0⟩:=r
    obtain ⟨hr,h1,h2,h3,h4⟩:=lC (E:=E) hb N3 N4 Ot (Nat.le_refl _) true (Nat.le_refl _)
    have hm:(if mx.isNone then 0 else m0)=0:=by split<;>omega
    rw[hm] at hr
    refine ⟨_,.aj,fun w=>?_⟩
    obtain rfl:l0=0:=by omega
    obtain rfl:h0=0:=by omega
    simp only[Instr.sliceAt,Instr.slice,Sem.run_bind,run_underlying hu,Result.andThen_ok,hr w,cM hs,if_true,Sem.run_pure]
  · simp at e
 · rename_i elem i o len cap op hu
   cases hx with
   | @slice _ l _ _ _ _ hφ=>
   split at e
   · rename_i Sl
     split at e
     · rename_i l0 h0 m0 size hb hs
       have Sm:cap≤dx op cap l.eI:=by unfold dx;split<;>omega
       obtain ⟨hr,h1,h2,h3,h4⟩:=lC (E:=E) hb N3 N4 Ot Sm true Sl
       have run:∀w,(Instr.sliceAt t (.slice (some ⟨l.cG,l.off+o,none⟩) len (dx op cap l.eI)) EZ Ah yn).run E.P w=
        .ok (.slice (if (if mx.isNone then dx op cap l.eI else m0)=l0 then some ⟨l.cG,l.off+o,none⟩ else some ⟨l.cG,l.off+o+l0*size,none⟩) (h0 - l0) ((if mx.isNone then dx op cap l.eI else m0) - l0)) w:=fun w=>by
        simp only[Instr.sliceAt,Instr.slice,Sem.run_bind,run_underlying hu,Result.andThen_ok,hr w,cM hs,Sem.run_pure,Option.map_some,pv]
       split at e
       · rename_i UE
         split at e
         · rename_i l9
           have UF:mx.isNone=true:=by simp at l9;simpa using l9.2
           simp only[Option.some.injEq] at e;subst e
           have e0:h0 - l0=0:=by omega
           rw[e0] at run
           by_cases hq:(if mx.isNone then dx op cap l.eI else m0)=l0
           · exact ⟨_,.cJ _ _,fun w=>by rw[run w,if_pos hq]⟩
           · exact ⟨_,.cJ _ _,fun w=>by rw[run w,if_neg hq]⟩
         · rename_i l9
           simp at e;subst e
           have Y9:(if mx.isNone then dx op cap l.eI else m0)=m0:=by
            cases UF:mx with
            | none=>subst UF;simp at l9;subst l9;simp [dx,h4 rfl]
            | some _=>rfl
           rw[Y9,if_pos UE] at run
           exact ⟨_,.slice o (h0 - l0) (m0 - l0) false hφ,run⟩
       · rename_i UE
         simp only[Option.some.injEq] at e;subst e
         have cH:¬(if mx.isNone then dx op cap l.eI else m0)=l0:=by
          split
          · rename_i UF;have:=h4 (by simpa using UF);omega
          · exact UE
         rw[if_neg cH,Nat.add_assoc] at run
         refine ⟨_,?_,run⟩
         have:=VR.slice (φ:=φ) (o+l0*size) (h0 - l0) (m0 - l0) (op&&mx.isNone) hφ
         have e2:dx (op&&mx.isNone) (m0 - l0) l.eI=(if mx.isNone then dx op cap l.eI else m0) - l0:=by
          cases UF:mx with
          | none=>
            have h5:=h4 UF
            cases op with
            | true=>simp [dx];omega
            | false=>simp [dx];omega
          | some _=>simp [dx]
         rw[e2] at this;exact this
     · simp at e
   · simp at e
 · simp at e
end Go.Ab
end
section
namespace Go.Ab
variable {E:Env}
theorem me:∀(l:List Value) (k off:Nat) (C:Array Value),(l.zipIdx k).foldl (fun cs (x:Value×Nat)=>cs.setIfInBounds (off+x.2) x.1) C=gW C (off+k) l
 | [],_,_,_=>rfl
 | v::vs,k,off,C=>by
   rw[List.zipIdx_cons,List.foldl_cons,me vs (k+1) off,gW,Nat.add_assoc]
theorem LR.setFrom {φ:Ph}:∀{vs:List AV} {lq:List Value} (_:LR φ vs lq) {cs:List AV} {C:Array Value} (_:LR φ cs C.toList) (o:Nat),LR φ (Ab.setFrom cs o vs) (gW C o lq).toList
 | [],lq,hv,cs,C,hc,o=>by rw[hv.dG];exact hc
 | v::vs,lq,hv,cs,C,hc,o=>by
   obtain ⟨y,ys,rfl,hy,pT⟩:=hv.bQ
   rw[Ab.setFrom,gW]
   refine LR.setFrom pT ?_ (o+1)
   rw[Array.toList_setIfInBounds]
   exact hc.set hy o
def PR (φ:Ph) (ps:List (Nat×AV)) (qs:List (Nat×Value)):Prop:=ps.length=qs.length∧∀(i:Nat) (x:Nat×AV) (y:Nat×Value),ps[i]? =some x→qs[i]? =some y→x.1=y.1∧VR φ x.2 y.2
theorem PR.bQ {φ:Ph} {x:Nat×AV} {xs:List (Nat×AV)} {ys:List (Nat×Value)} (h:PR φ (x::xs) ys):∃y sx,ys=y::sx∧(x.1=y.1∧VR φ x.2 y.2)∧PR φ xs sx:=by
 obtain ⟨hl,hv⟩:=h
 cases ys with
 | nil=>simp at hl
 | cons y ys=>exact ⟨y,ys,rfl,hv 0 x y (by simp) (by simp),by simpa using hl,fun i a b ha hb=>hv (i+1) a b (by simpa using ha) (by simpa using hb)⟩
theorem sH {φ:Ph} (hg:GL E φ) {ts:List AV} {a:Act} (ht:LR φ ts a.tmps.toList):∀{l:List (Nat×Operand)} {r:List (Nat×AV)} (_:fZ E ts l=some r),PR φ r (l.map fun (i,x)=>(i,a.eval x))
 | [],r,h=>by simp [fZ] at h;subst h;exact ⟨rfl,fun i x y hx _=>by simp at hx⟩
 | (i,o)::rest,r,h=>by
   simp only[fZ] at h
   cases hv:cx E ts o with
   | none=>simp [hv] at h
   | some v=>
     simp only[hv] at h
     cases hr:fZ E ts rest with
     | none=>simp [hr] at h
     | some l=>
       simp only[hr,Option.some.injEq] at h;subst h
       obtain ⟨h1,h2⟩:=sH hg ht hr
       refine ⟨by simpa using h1,fun j x y hx hy=>?_⟩
       cases j with
       | zero=>simp at hx hy;subst hx;subst hy;exact ⟨rfl,jD hg ht hv⟩
       | succ j=>simp at hx;exact h2 j x y hx (by simpa using hy)
theorem pw {φ:Ph} {place:Nat→Option (Nat×Nat)}:∀{ps:List (Nat×AV)} {qs:List (Nat×Value)} (_:PR φ ps qs) {cs eE:List AV} {C:Array Value} (_:LR φ cs C.toList) (_:mb place cs ps=some eE),
 ∃C',Instr.fill place C qs=some C'∧LR φ eE C'.toList
 | [],qs,hp,cs,eE,C,hc,h=>by
   cases qs with
   | nil=>simp [mb] at h;subst h;exact ⟨C,rfl,hc⟩
   | cons q qs=>simp [PR] at hp
 | (i,v)::rest,qs,hp,cs,eE,C,hc,h=>by
   obtain ⟨⟨j,v'⟩,qs',rfl,⟨he,hv⟩,kl⟩:=hp.bQ
   simp only at he hv;subst he
   simp only[mb] at h
   simp only[Instr.fill]
   cases Ie:place i with
   | none=>simp [Ie] at h
   | some x=>
     obtain ⟨off,size⟩:=x
     simp only[Ie] at h ⊢
     split at h
     · rename_i E1
       have Ai:=hv.cells
       have hl:v'.cells.size=size:=by have:=Ai.1;simp at this;omega
       have Jx:C.size=cs.length:=by have:=hc.1;simp at this;omega
       have Ad:(decide (v'.cells.size≠size)||decide (off+v'.cells.size>C.size))=false:=by
        simp only[Bool.or_eq_false_iff,decide_eq_false_iff_not];omega
       simp only[Ad,Bool.false_eq_true,if_false]
       have Vf:(v'.cells.zipIdx.foldl (fun cs (x:Value×Nat)=>cs.setIfInBounds (off+x.2) x.1) C)=gW C off v'.cells.toList:=by
        rw[←Array.foldl_toList]
        have:=me v'.cells.toList 0 off C
        simpa using this
       rw[Vf]
       exact pw kl (LR.setFrom Ai hc off) h
     · simp at h
theorem E2 {φ:Ph} {t:TypeId} {ps:List (Nat×AV)} {v:AV} (h:z8 E t ps=some v) {qs:Array (Nat×Value)} (hp:PR φ ps qs.toList):
 ∃v',VR φ v v'∧∀w,(Instr.build t qs).run E.P w= .ok v' w:=by
 unfold z8 at h
 split at h
 · simp at h
 rename_i z hz
 obtain ⟨z',sy,f'⟩:=eQ hz
 split at h
 · rename_i fs hu
   split at h
   · simp at h
   rename_i pl Ie
   split at h
   · rename_i cs hf
     simp at h;subst h
     have places:∀w,(fs.mapM fun f=>do pure (f.offset,←sizeOf f.type):Sem (Array (Nat×Nat))).run E.P w= .ok pl.toArray w:=by
      intro w
      have key:∀(l:List Field) (r:List (Nat×Nat)),cD (fun f=>match bh E f.type with | some n=>some (f.offset,n) | none=>none) l=some r→
       (l.mapM fun f=>do pure (f.offset,←sizeOf f.type):Sem (List (Nat×Nat))).run E.P w= .ok r w:=by
       intro l
       induction l with
       | nil=>intro r hr;simp [cD] at hr;subst hr;rfl
       | cons f l ih=>
         intro r hr
         simp only[cD] at hr
         cases hs:bh E f.type with
         | none=>simp [hs] at hr
         | some n=>
           simp only[hs] at hr
           cases hm:cD (fun f=>match bh E f.type with | some n=>some (f.offset,n) | none=>none) l with
           | none=>simp [hm] at hr
           | some ys=>
             simp only[hm,Option.some.injEq] at hr;subst hr
             simp only[List.mapM_cons,Sem.run_bind,cM hs,Result.andThen_ok,Sem.run_pure,ih ys hm]
      have:=key fs.toList pl Ie
      have hh:(fs.mapM fun f=>do pure (f.offset,←sizeOf f.type):Sem (Array (Nat×Nat)))=(do pure (←(fs.toList.mapM fun f=>do pure (f.offset,←sizeOf f.type):Sem (List (Nat×Nat)))).toArray):=by
       rw[Array.mapM_eq_mapM_toList];rfl
      rw[hh,Sem.run_bind,this];rfl
     obtain ⟨C',tM,tN⟩:=pw (place:=(pl[·]?)) hp (cs:=z.cells) (C:=z'.cells) (sy φ).cells hf
     refine ⟨.agg C',by have:=VR.Ib tN;simpa using this,fun w=>?_⟩
     simp only[Instr.build,Sem.run_bind,f',Result.andThen_ok,run_underlying hu,places w]
     simp [tM]
   · simp at h
 · rename_i n elem hu
   split at h
   · simp at h
   rename_i n hn
   split at h
   · rename_i cs hf
     simp at h;subst h
     obtain ⟨C',tM,tN⟩:=pw (place:=fun i=>some (i*n,n)) hp (cs:=z.cells) (C:=z'.cells) (sy φ).cells hf
     refine ⟨.agg C',by have:=VR.Ib tN;simpa using this,fun w=>?_⟩
     simp [Instr.build,Sem.run_bind,f',run_underlying hu,cM hn,tM]
   · simp at h
 · simp at h
theorem Ce {φ:Ph}:∀{l:List AV} {x v:AV} (_:ES x l=some v) {x':Value} (_:VR φ x x') {l':List Value} (_:LR φ l l'),∃v',VR φ v v'∧∀w,(l'.foldlM Builtin.max2 x').run E.P w= .ok v' w
 | [],x,v,h,x',hx,l',hl=>by
   rw[hl.dG]
   cases x<;>simp [ES] at h
   subst h;exact ⟨x',hx,fun w=>rfl⟩
 | y::ys,x,v,h,x',hx,l',hl=>by
   obtain ⟨y',sx,rfl,hy,pT⟩:=hl.bQ
   cases x<;>(try (simp [ES] at h;done))
   cases y<;>(try (simp [ES] at h;done))
   cases hx;cases hy
   simp only[ES] at h
   obtain ⟨v',hv,hr⟩:=Ce h (.int _ _) pT
   refine ⟨v',hv,fun w=>?_⟩
   simp only[List.foldlM_cons,Builtin.max2,Sem.run_bind,Sem.run_pure,Result.andThen_ok,hr w]
theorem Cf {φ:Ph}:∀{l:List AV} {x v:AV} (_:ET x l=some v) {x':Value} (_:VR φ x x') {l':List Value} (_:LR φ l l'),∃v',VR φ v v'∧∀w,(l'.foldlM Builtin.min2 x').run E.P w= .ok v' w
 | [],x,v,h,x',hx,l',hl=>by
   rw[hl.dG]
   cases x<;>simp [ET] at h
   subst h;exact ⟨x',hx,fun w=>rfl⟩
 | y::ys,x,v,h,x',hx,l',hl=>by
   obtain ⟨y',sx,rfl,hy,pT⟩:=hl.bQ
   cases x<;>(try (simp [ET] at h;done))
   cases y<;>(try (simp [ET] at h;done))
   cases hx;cases hy
   simp only[ET] at h
   obtain ⟨v',hv,hr⟩:=Cf h (.int _ _) pT
   refine ⟨v',hv,fun w=>?_⟩
   simp only[List.foldlM_cons,Builtin.min2,Sem.run_bind,Sem.run_pure,Result.andThen_ok,hr w]
theorem map_toArray (f:Operand→Value) (l:Array Operand):l.map f=(l.toList.map f).toArray:=by apply Array.ext';simp
def QS (E:Env):Prop:=∀f e,E.jg f=some e→∀vs r,e vs=some r→∀φ (lq:List Value),LR φ vs lq→
 ∃r',VR φ r r'∧∀w,(callFunc f lq.toArray).run E.P w= .ok (.value r') w
theorem dc {s:Sem Value} {v:Value} {P:Program} {w w':World} (h:s.run P w= .ok v w'):(do pure (.value (←s)):Sem Next).run P w= .ok (.value v) w':=by
 rw[Sem.run_bind,h];rfl
theorem Aj {φ:Ph} (hg:GL E φ) {ts:List AV} {a:Act} (ht:LR φ ts a.tmps.toList) {o:Option Operand} {r:Option AV} (h:jk E ts o=some r):EY φ r (o.map a.eval):=by
 cases o with
 | none=>simp [jk] at h;subst h;trivial
 | some o=>
   simp only[jk] at h
   split at h
   · rename_i v hv;simp at h;subst h;exact jD hg ht hv
   · simp at h
theorem n8 {P:Program} {t:TypeId} {d:TypeDesc} (hu:P.underlying t=some d) (hd:∀m,d= .interface m→False) (v:Value) (xT:TypeId) (ok:Bool) (w:World):
 (Instr.typeAssert (.iface t v) xT t ok).run P w= .ok (if ok then .tuple #[v,.bool true] else v) w:=by
 rw[Instr.typeAssert,Sem.run_bind,run_underlying hu]
 cases d<;>first | (exact (hd _ rfl).elim) | (simp;done)
theorem ux {P:Program} {t u:TypeId} {d:TypeDesc} (hu:P.underlying t=some d) (hd:∀m,d= .interface m→False) (v:Value) (xT:TypeId) (cH:u≠t) {z:Value} (w:World) (hz:(zeroValue t).run P w= .ok z w):
 (Instr.typeAssert (.iface u v) xT t true).run P w= .ok (.tuple #[z,.bool false]) w:=by
 rw[Instr.typeAssert,Sem.run_bind,run_underlying hu]
 cases d<;>first | (exact (hd _ rfl).elim) | (simp [cH,hz];done)
theorem ve {P:Program} {t:TypeId} {d:TypeDesc} (hu:P.underlying t=some d) (hd:∀m,d= .interface m→False) (xT:TypeId) {z:Value} (w:World) (hz:(zeroValue t).run P w= .ok z w):
 (Instr.typeAssert .nilIface xT t true).run P w= .ok (.tuple #[z,.bool false]) w:=by
 rw[Instr.typeAssert,Sem.run_bind,run_underlying hu]
 cases d<;>first | (exact (hd _ rfl).elim) | (simp [hz];done)
set_option maxHeartbeats 1000000 in
theorem tO (Vg:QS E) {φ:Ph} (hg:GL E φ) {ts:List AV} {a:Act} (ht:LR φ ts a.tmps.toList) {o:Oper} {v:AV} (h:aG E ts o.op=some v):
 ∃v',VR φ v v'∧∀w,(execOp a.eval o).run E.P w= .ok (.value v') w:=by
 have ev:∀{x:Operand} {v:AV},cx E ts x=some v→VR φ v (a.eval x):=fun h=>jD hg ht h
 unfold execOp
 generalize o.op=op at h ⊢
 unfold aG at h
 split at h
 · exact ⟨_,ev h,fun w=>rfl⟩
 · exact ⟨_,ev h,fun w=>rfl⟩
 ·
  split at h
  · rename_i hc
    have:=ev hc
    generalize ij:a.eval _=cv at this
    cases this
    exact ⟨_,ev h,fun w=>by simp [ij,asBool]⟩
  · rename_i hc
    have:=ev hc
    generalize ij:a.eval _=cv at this
    cases this
    exact ⟨_,ev h,fun w=>by simp [ij,asBool]⟩
  · simp at h
 ·
  rename_i t parts
  split at h
  · rename_i ps Y_
    have hp:=sH hg ht Y_
    obtain ⟨v',hv,hr⟩:=E2 (φ:=φ) h (qs:=parts.map fun (i,x)=>(i,a.eval x)) (by simpa using hp)
    exact ⟨v',hv,fun w=>dc (hr w)⟩
  · simp at h
 ·
  split at h<;>(try (simp at h;done))
  all_goals
   rename_i hx
   have:=ev hx
   generalize ij:a.eval _=cv at this
   cases this
   simp only[Option.some.injEq] at h;subst h
   first
    | exact ⟨_,.ptr _ ‹_›,fun w=>by simp [ij]⟩
    | exact ⟨_,.map ‹_›,fun w=>by simp [ij]⟩
    | exact ⟨_,.slice _ _ _ _ ‹_›,fun w=>by simp [ij]⟩
    | exact ⟨_,.func _ _ _ _ _ ‹_› ‹_› ‹_› ‹_›,fun w=>by simp [ij]⟩
 ·
  split at h
  · rename_i hx hy
    obtain ⟨v',hv,hr⟩:=JW h (ev hx) (ev hy)
    exact ⟨v',hv,fun w=>dc (hr w)⟩
  · simp at h
 ·
  split at h
  · rename_i hx
    obtain ⟨v',hv,hr⟩:=Oq (E:=E) h (ev hx)
    exact ⟨v',hv,fun w=>dc (hr w)⟩
  · simp at h
 ·
  split at h
  · rename_i hs hd hx
    have:=ev hx
    generalize ij:a.eval _=cv at this
    cases this
    simp at h;subst h
    refine ⟨_,.int _ _,fun w=>dc ?_⟩
    simp [ij,convert,run_underlying hs,run_underlying hd,Conv.intToInt]
  · rename_i d s hs hd hx
    have:=ev hx
    generalize ij:a.eval _=cv at this
    simp at h;subst h
    generalize E3:s=s0 at this
    cases this
    subst E3
    refine ⟨_,.str _,fun w=>dc ?_⟩
    simp [ij,convert,run_underlying hs,run_underlying hd]
  · rename_i d k n hs hd hx
    have:=ev hx
    generalize ij:a.eval _=cv at this
    cases this
    unfold GO at h
    split at h
    · rename_i h0
      simp at h;subst h
      have he:Utf8.encode n=⟨#[UInt8.ofNat n.toNat]⟩:=by
       have hv:Utf8.valid n=true:=by simp [Utf8.valid];omega
       have h1:n.toNat<0x80:=by omega
       simp [Utf8.encode,hv,h1]
      refine ⟨.string ⟨#[UInt8.ofNat n.toNat]⟩,.str ⟨#[UInt8.ofNat n.toNat]⟩,fun w=>dc ?_⟩
      rw[←he]
      cases d<;>simp [ij,convert,run_underlying hs,run_underlying hd,Conv.intToString]
    · simp at h
  · simp at h
 ·
  split at h
  · simp at h
  · rename_i d v0 hn hu hx
    simp at h;subst h
    refine ⟨_,.iface _ _ _ (ev hx),fun w=>dc ?_⟩
    rw[Instr.makeInterface,Sem.run_bind,run_underlying hu]
    cases d<;>first | (exact (hn _ rfl).elim) | rfl
  · simp at h
 ·
  rename_i f first captured
  split at h
  · rename_i ha hb
    simp at h;subst h
    have h1:=eP hg ht ha
    have h2:=eP hg ht hb
    refine ⟨.func (.func f) (first.map a.eval) (captured.map a.eval),?_,fun w=>dc rfl⟩
    rw[map_toArray,map_toArray]
    exact VR.JN f h1 h2
  · simp at h
 ·
  split at h
  · rename_i hx hl hh hm
    obtain ⟨v',hv,hr⟩:=E0 h (ev hx) (Aj hg ht hl) (Aj hg ht hh) (Aj hg ht hm)
    exact ⟨v',hv,fun w=>dc (hr w)⟩
  · simp at h
 ·
  split at h
  · rename_i fd i o0 hf hx
    split at h
    · rename_i n hn
      split at h
      · simp at h
      · rename_i Ig
        simp at h;subst h
        have:=ev hx
        generalize ij:a.eval _=cv at this
        cases this with
        | @ptr _ l _ hφ=>
        refine ⟨_,.ptr _ hφ,fun w=>dc ?_⟩
        unfold jl at hf
        split at hf
        · rename_i fs hu
          simp [ij,Instr.fieldAt,run_underlying hu,hf,Instr.sureAddr,fieldPlace,cM hn,Ig,pv,Nat.add_assoc]
        · simp at hf
    · simp at h
  · simp at h
 ·
  split at h
  · rename_i fd cs hf hx
    have:=ev hx
    generalize ij:a.eval _=cv at this
    obtain ⟨eE,rfl,tN⟩:=this.gK
    obtain ⟨v',hv,hr⟩:=j7 tN h
    refine ⟨v',hv,fun w=>dc ?_⟩
    unfold jl at hf
    split at hf
    · rename_i fs hu
      have:=hr w
      simp [ij,Instr.field,run_underlying hu,hf,asAgg] at this ⊢
      exact this
    · simp at hf
  · simp at h
 ·
  split at h
  · rename_i len elem i o0 k n hu hx hi
    split at h
    · rename_i size hs
      split at h
      · rename_i hb
        simp at h;subst h
        have h1:=ev hx
        have h2:=ev hi
        generalize ij:a.eval _=cv at h1
        generalize Sn:a.eval _=cw at h2
        cases h1 with
        | @ptr _ l _ hφ=>
        cases h2
        refine ⟨_,.ptr _ hφ,fun w=>dc ?_⟩
        simp [ij,Sn,Instr.indexAt,asIntOf,run_underlying hu,Instr.sureAddr,hb,cM hs,pv,Nat.add_assoc]
      · simp at h
    · simp at h
  · rename_i elem i o0 len cap op k n hu hx hi
    split at h
    · rename_i size hs
      split at h
      · rename_i hb
        simp at h;subst h
        have h1:=ev hx
        have h2:=ev hi
        generalize ij:a.eval _=cv at h1
        generalize Sn:a.eval _=cw at h2
        cases h1 with
        | @slice _ l _ _ _ _ hφ=>
        cases h2
        refine ⟨_,.ptr _ hφ,fun w=>dc ?_⟩
        simp [ij,Sn,Instr.indexAt,asIntOf,run_underlying hu,hb,cM hs,pv,Nat.add_assoc]
      · simp at h
    · simp at h
  · simp at h
 ·
  split at h
  · rename_i len elem cs k n hu hx hi
    split at h
    · rename_i size hs
      split at h
      · rename_i hb
        have h1:=ev hx
        have h2:=ev hi
        generalize ij:a.eval _=cv at h1
        generalize Sn:a.eval _=cw at h2
        obtain ⟨eE,rfl,tN⟩:=h1.gK
        cases h2
        obtain ⟨v',hv,hr⟩:=j7 tN h
        refine ⟨v',hv,fun w=>dc ?_⟩
        have:=hr w
        simp [ij,Sn,Instr.index,asIntOf,run_underlying hu,hb,cM hs] at this ⊢
        exact this
      · simp at h
    · simp at h
  · rename_i s k n hu hx hi
    split at h
    · rename_i hn
      split at h
      · rename_i b hb
        simp at h;subst h
        have h1:=ev hx
        have h2:=ev hi
        generalize ij:a.eval _=cv at h1
        generalize Sn:a.eval _=cw at h2
        generalize E3:s=s0 at h1
        cases h1 with
        | str s'=>
        subst E3
        cases h2
        refine ⟨_,.int _ _,fun w=>dc ?_⟩
        have QT:s'[n.toNat]? =some b:=by
         have:s'.data[n.toNat]? =some b:=by simpa using hb
         rw[←this];rfl
        simp [ij,Sn,Instr.index,asIntOf,run_underlying hu,hn,QT]
      · simp at h
    · simp at h
  · simp at h
 ·
  split at h
  · rename_i vs hx
    have h1:=ev hx
    generalize ij:a.eval _=cv at h1
    obtain ⟨lq,rfl,tN⟩:=h1.yS
    obtain ⟨y,hy,hv⟩:=tN.get h
    refine ⟨y,hv,fun w=>dc ?_⟩
    simp at hy
    simp [ij,Instr.extract,hy]
  · simp at h
 ·
  split at h
  · simp at h
  · rename_i d t v0 hn hu hx
    have h1:=ev hx
    generalize ij:a.eval _=cv at h1
    cases h1 with
    | iface _ _ v1 Ou=>
    split at h
    · rename_i Y'
      subst Y'
      simp at h;subst h
      split
      · rename_i iV
        refine ⟨.tuple #[v1,.bool true],VR.tuple' (eE:=[v1,.bool true]) (.cons Ou (.cons (.bool true) (.nil φ))),fun w=>dc ?_⟩
        rw[ij,n8 hu hn,iV];rfl
      · rename_i iV
        refine ⟨v1,Ou,fun w=>dc ?_⟩
        rw[ij,n8 hu hn];simp [iV]
    · rename_i Y'
      split at h
      · rename_i iV
        split at h
        · rename_i z hz
          simp at h;subst h
          obtain ⟨z',sy,f'⟩:=eQ hz
          refine ⟨.tuple #[z',.bool false],VR.tuple' (eE:=[z',.bool false]) (.cons (sy φ) (.cons (.bool false) (.nil φ))),fun w=>dc ?_⟩
          rw[ij,iV];exact ux hu hn _ _ Y' w (f' w)
        · simp at h
      · simp at h
  · rename_i d hn hu hx
    have h1:=ev hx
    generalize ij:a.eval _=cv at h1
    cases h1
    split at h
    · rename_i iV
      split at h
      · rename_i z hz
        simp at h;subst h
        obtain ⟨z',sy,f'⟩:=eQ hz
        refine ⟨.tuple #[z',.bool false],VR.tuple' (eE:=[z',.bool false]) (.cons (sy φ) (.cons (.bool false) (.nil φ))),fun w=>dc ?_⟩
        rw[ij,iV];exact ve hu hn _ w (f' w)
      · simp at h
    · simp at h
  · simp at h
 ·
  split at h
  · rename_i t v0 Jy E4
    have hl:=eP hg ht E4
    obtain ⟨y,ys,pT,hy,Ak⟩:=hl.bQ
    rw[Ak.dG] at pT
    have vf:∀(args:Array Operand),args.toList.map a.eval=[y]→args.map a.eval= #[y]:=fun args e=>by rw[map_toArray,e]
    have h0:=vf _ pT
    split at h<;>(try (simp at h;done))
    all_goals
     rename_i hu
     simp only[Option.some.injEq] at h;subst h
    · generalize E3:AV.str _=s0 at hy
      cases hy<;>cases E3
      rename_i s'
      refine ⟨_,.int _ _,fun w=>?_⟩
      simp [resolve,invoke,builtin,h0,Builtin.len_,Jy,run_underlying hu,goInt]
      try rfl
    · refine ⟨_,.int _ _,fun w=>?_⟩
      simp [resolve,invoke,builtin,h0,Builtin.len_,Jy,run_underlying hu,goInt]
    · cases hy
      refine ⟨_,.int _ _,fun w=>?_⟩
      simp [resolve,invoke,builtin,h0,Builtin.len_,Jy,run_underlying hu,goInt]
    · cases hy
      refine ⟨_,.int _ _,fun w=>?_⟩
      simp [resolve,invoke,builtin,h0,Builtin.len_,Jy,run_underlying hu,goInt]
    · cases hy
      refine ⟨_,.int _ _,fun w=>?_⟩
      simp [resolve,invoke,builtin,h0,Builtin.len_,Jy,run_underlying hu,goInt]
    · cases hy
      refine ⟨_,.int _ _,fun w=>?_⟩
      simp [resolve,invoke,builtin,h0,Builtin.len_,Jy,run_underlying hu,goInt]
  · simp at h
 ·
  split at h
  · rename_i t v0 Jy E4
    have hl:=eP hg ht E4
    obtain ⟨y,ys,pT,hy,Ak⟩:=hl.bQ
    rw[Ak.dG] at pT
    have vf:∀(args:Array Operand),args.toList.map a.eval=[y]→args.map a.eval= #[y]:=fun args e=>by rw[map_toArray,e]
    have h0:=vf _ pT
    split at h<;>(try (simp at h;done))
    all_goals
     rename_i hu
     simp only[Option.some.injEq] at h;subst h
    · refine ⟨_,.int _ _,fun w=>?_⟩
      simp [resolve,invoke,builtin,h0,Builtin.cap_,Jy,run_underlying hu,goInt]
    · cases hy
      refine ⟨_,.int _ _,fun w=>?_⟩
      simp [resolve,invoke,builtin,h0,Builtin.cap_,Jy,run_underlying hu,goInt]
    · cases hy
      refine ⟨_,.int _ _,fun w=>?_⟩
      simp [resolve,invoke,builtin,h0,Builtin.cap_,Jy,run_underlying hu,goInt,dx]
  · simp at h
 ·
  rename_i args _
  split at h
  · rename_i x rest E4
    have hl:=eP hg ht E4
    obtain ⟨y,ys,pT,hy,kl⟩:=hl.bQ
    obtain ⟨v',hv,hr⟩:=Ce (E:=E) h hy kl
    refine ⟨v',hv,fun w=>?_⟩
    have h0:args.map a.eval=(y::ys).toArray:=by rw[map_toArray,pT]
    have:=hr w
    simp [resolve,invoke,builtin,h0,Builtin.max_,this]
  · simp at h
 ·
  rename_i args _
  split at h
  · rename_i x rest E4
    have hl:=eP hg ht E4
    obtain ⟨y,ys,pT,hy,kl⟩:=hl.bQ
    obtain ⟨v',hv,hr⟩:=Cf (E:=E) h hy kl
    refine ⟨v',hv,fun w=>?_⟩
    have h0:args.map a.eval=(y::ys).toArray:=by rw[map_toArray,pT]
    have:=hr w
    simp [resolve,invoke,builtin,h0,Builtin.min_,this]
  · simp at h
 ·
  rename_i f args _
  split at h
  · rename_i e vs he E4
    have hl:=eP hg ht E4
    obtain ⟨r',hr,dZ⟩:=Vg f e he vs v h φ _ hl
    refine ⟨r',hr,fun w=>?_⟩
    have:=dZ w
    rw[←map_toArray] at this
    simpa [resolve,Deferred.ofValue,invoke,Act.eval] using this
  · simp at h
 · simp at h
end Go.Ab
end
section
namespace Go.Ab
variable {E:Env}
theorem Al {P:Program} {t:TypeId} {k:IntKind} (hu:P.underlying t=some (.int k)) (b:Bool) (n:Nat) (v:Value) (w:World):
 (Instr.checkKey b (n+1) t v).run P w= .ok () w:=by
 unfold Instr.checkKey
 rw[Sem.run_bind,run_underlying hu]
 rfl
theorem Am {P:Program} {t:TypeId} (hu:P.underlying t=some .string) (b:Bool) (n:Nat) (v:Value) (w:World):
 (Instr.checkKey b (n+1) t v).run P w= .ok () w:=by
 unfold Instr.checkKey
 rw[Sem.run_bind,run_underlying hu]
 rfl
theorem lD {φ:Ph} {t:TypeId} {d:TypeDesc} {k:AV} (hu:E.P.underlying t=some d) (hk:fh E (some d) k=true) {k':Value} (h:VR φ k k') (b:Bool) (n:Nat) (w:World):
 (Instr.checkKey b (n+2) t k').run E.P w= .ok () w:=by
 unfold fh at hk
 split at hk
 · rename_i fs xs hd
   cases hd
   obtain ⟨uP,rfl,Af⟩:=h.gK
   unfold Instr.checkKey
   rw[Sem.run_bind,run_underlying hu]
   simp only[Result.andThen_ok]
   have key:∀l:List Field,(l.all fun f=>match E.P.underlying f.type,fG E f.type xs f.offset with
    | some (.int _),some (.int _ _)=>true
    | some .string,some (.str _)=>true
    | _,_=>false)=true→
    (forIn (m:=Sem) l PUnit.unit fun f (_:PUnit)=>if f.name≠ "_" then (do let x←part f.type uP f.offset;Instr.checkKey b (n+1) f.type x;pure (ForInStep.yield PUnit.unit)) else pure (ForInStep.yield PUnit.unit)).run E.P w= .ok PUnit.unit w:=by
    intro l
    induction l with
    | nil=>intro _;rfl
    | cons f l ih=>
      intro ha
      rw[List.all_cons,Bool.and_eq_true] at ha
      obtain ⟨hf,hl⟩:=ha
      have h2:=ih hl
      split at hf
      · rename_i ki kj z e1 e2
        obtain ⟨v',_,hr⟩:=j7 Af e2
        rw[Array.toArray_toList] at hr
        simp only[List.forIn_cons,Sem.run_bind]
        split
        · simp only[Sem.run_bind,hr,Result.andThen_ok,Al e1,Sem.run_pure,h2]
        · simp only[Sem.run_pure,Result.andThen_ok,h2]
      · rename_i z e1 e2
        obtain ⟨v',_,hr⟩:=j7 Af e2
        rw[Array.toArray_toList] at hr
        simp only[List.forIn_cons,Sem.run_bind]
        split
        · simp only[Sem.run_bind,hr,Result.andThen_ok,Am e1,Sem.run_pure,h2]
        · simp only[Sem.run_pure,Result.andThen_ok,h2]
      · cases hf
   have:=key fs.toList hk
   rw[Array.forIn_toList] at this
   first | exact this | (simp only[Sem.run_bind,this];rfl)
 · cases hk
theorem sI {φ:Ph}:∀{xs ys:List AV} {uP sx:List Value},hJ xs ys=true→LR φ xs uP→LR φ ys sx→sx=uP∧(sx.zip uP).all (fun (x,y)=>Instr.sameBits 9999 x y)=true
 | [],[],uP,sx,_,h,h'=>by rw[h.dG,h'.dG];exact ⟨rfl,rfl⟩
 | .int k a::xs,.int j b::ys,uP,sx,e,h,h'=>by
   obtain ⟨x,xs2,rfl,hx,Af⟩:=h.bQ
   obtain ⟨y,Za,rfl,hy,pT⟩:=h'.bQ
   simp only[hJ,Bool.and_eq_true,decide_eq_true_eq] at e
   obtain ⟨⟨rfl,rfl⟩,e⟩:=e
   cases hx;cases hy
   obtain ⟨h1,h2⟩:=sI e Af pT
   subst h1
   refine ⟨rfl,?_⟩
   rw[List.zip_cons_cons,List.all_cons,h2,Bool.and_true]
   simp [Instr.sameBits]
 | .str a::xs,.str b::ys,uP,sx,e,h,h'=>by
   obtain ⟨x,xs2,rfl,hx,Af⟩:=h.bQ
   obtain ⟨y,Za,rfl,hy,pT⟩:=h'.bQ
   simp only[hJ,Bool.and_eq_true,beq_iff_eq] at e
   obtain ⟨rfl,e⟩:=e
   obtain ⟨h1,h2⟩:=sI e Af pT
   subst h1
   generalize hq:AV.str a=q at hx hy
   have hxy:y=x:=by
    cases hx with
    | str s1=>
      generalize hr:AV.str s1.data.toList=r at hy
      cases hy with
      | str s2=>
        injection hr with hr
        have:s1.data=s2.data:=Array.toList_inj.1 hr
        cases s1;cases s2;cases this;rfl
      | _=>cases hr
    | _=>cases hq
   subst hxy
   refine ⟨rfl,?_⟩
   rw[List.zip_cons_cons,List.all_cons,h2,Bool.and_true]
   cases hx with
   | str s1=>
     show (s1==s1)=true
     cases s1 with
     | mk d=>show (d==d)=true;simp
   | _=>cases hq
theorem An {φ:Ph} {xs ys:List AV} (e:hJ xs ys=true) {k' j':Value} (h:VR φ (.agg xs) k') (h':VR φ (.agg ys) j'):Instr.sameBits 10000 j' k'=true∧j'=k':=by
 obtain ⟨a,rfl,ha⟩:=h.gK
 obtain ⟨b,rfl,hb⟩:=h'.gK
 obtain ⟨h1,h2⟩:=sI e ha hb
 have hab:b=a:=by cases b;cases a;simp at h1;subst h1;rfl
 subst hab
 refine ⟨?_,rfl⟩
 rw[Instr.sameBits]
 simp only[beq_self_eq_true,Bool.true_and]
 exact h2
def Ov (φ:Ph) (k j:AV):Prop:=∀{k' j':Value},VR φ k k'→VR φ j j'→Instr.sameBits 10000 j' k'=true∧j'=k'
theorem iW {φ:Ph} {key:TypeId} {k:AV} {k':Value} (h:VR φ k k'):∀{es:List dY} {dU:List MapEntry} (_:Cc φ es dU) {i:Nat} {r:Option (Nat×AV)} (_:findD E key k es i=some r),
 ∃r',(∀w,(Instr.findAsking key k' dU i).run E.P w= .ok r' w)∧(match r,r' with | none,none=>True | some (j,v),some (j',v')=>j=j'∧VR φ v v'∧i≤j∧∃e,es[j - i]? =some e∧Ov φ k e.key | _,_=>False)
 | [],dU,he,i,r,e=>by
   cases dU with
   | nil=>simp [findD] at e;subst e;exact ⟨none,fun w=>rfl,trivial⟩
   | cons _ _=>simp [Cc] at he
 | x::es,dU,he,i,r,e=>by
   obtain ⟨hl,hv⟩:=he
   cases dU with
   | nil=>simp at hl
   | cons y ys=>
     have hx:=hv 0 x y (by simp) (by simp)
     simp only[findD] at e
     split at e
     · rename_i heq
       split at e
       · rename_i zs hz _
         split at e
         · rename_i hs
           simp at e;subst e
           refine ⟨some (i,y.val),fun w=>?_,rfl,hx.val,Nat.le_refl _,x,by simp,?_⟩
           · have q:=kh 16 9984 key _ _ true _ _ heq h hx.key w
             simp only[Instr.findAsking,Sem.run_bind,Op.equal]
             rw[show Op.maxDepth=9984+16 from rfl,q]
             rfl
           · intro a b ha hb
             rw[hz] at hb
             exact An hs ha hb
         · cases e
       · cases e
     · rename_i heq
       obtain ⟨r',h1,h2⟩:=iW h (es:=es) (dU:=ys) ⟨by simpa using hl,fun i a b p q=>hv (i+1) a b (by simpa using p) (by simpa using q)⟩ e
       refine ⟨r',fun w=>?_,?_⟩
       · have q:=kh 16 9984 key _ _ false _ _ heq h hx.key w
         simp only[Instr.findAsking,Sem.run_bind,Op.equal]
         rw[show Op.maxDepth=9984+16 from rfl,q]
         exact h1 w
       · cases r with
         | none=>cases r' with
           | none=>trivial
           | some _=>exact h2
         | some p=>
           obtain ⟨j,v⟩:=p
           cases r' with
           | none=>exact h2
           | some q=>
             obtain ⟨j',v'⟩:=q
             obtain ⟨h3,h4,h5,e',h6,h7⟩:=h2
             refine ⟨h3,h4,by omega,e',?_,h7⟩
             rw[show j - i=(j -(i+1))+1 by omega];simpa using h6
     · cases e
theorem gL {φ:Ph} {key:TypeId} {d:TypeDesc} {k:AV} (hd:E.P.underlying key=some d) (hk:fh E (some d) k=true) {k':Value} (h:VR φ k k') {dU:List MapEntry} {r':Option (Nat×Value)} {w:World} (hr:(Instr.findAsking key k' dU 0).run E.P w= .ok r' w):
 (Instr.findKey key k' dU).run E.P w= .ok r' w:=by
 unfold fh at hk
 split at hk
 · rename_i fs xs hdd
   cases hdd
   obtain ⟨uP,rfl,Af⟩:=h.gK
   rw[Instr.findKey,Sem.run_bind,run_underlying hd]
   simp only[Result.andThen_ok]
   cases dU with
   | nil=>exact hr
   | cons y ys=>
     have:Instr.findNow (.struct fs) (.agg uP) (y::ys) 0=none:=rfl
     rw[this]
     exact hr
 · cases hk
end Go.Ab
end
section
namespace Go.Ab
variable {E:Env}
theorem OK.cells {φ:Ph} {h:ag} {w:World} (ok:OK E φ h w) {i:Nat} {cs:List AV} {e:TypeId} {ro:Bool} (hg:h.get i=some (.cells cs e ro)) {l:Loc} (hl:φ i=some l):
 ∃C e' lo hi,w.heap[l.cG]? =some (.cells C e' (lo,hi))∧CS E φ cs e ro l C e' lo hi:=by
 exact ok.live i _ l hg hl
theorem yX {φ:Ph} {h:ag} {w:World} (ok:OK E φ h w) {t:TypeId} {av v:AV} {v':Value} (hv:VR φ av v') (e:bH E h t av=some v):
 ∃x',VR φ v x'∧∀w',w'.heap=w.heap→(Instr.loadAt t v').run E.P w'= .ok x' w':=by
 unfold bH at e
 split at e
 · rename_i i o
   cases hv with
   | @ptr _ l _ hφ=>
   split at e
   · rename_i cs el ro hg
     obtain ⟨C,e',lo,hi,hb,hc⟩:=ok.cells hg hφ
     unfold fG at e
     split at e
     · rename_i ha
       split at e
       · rename_i n hn
         split at e
         · rename_i hle
           simp at e;subst e
           obtain ⟨vs,Vi,yp,tN⟩:=hc.range o n hle
           refine ⟨.agg vs.toArray,VR.Ib tN,fun w' Vj=>?_⟩
           rw[←Vj] at hb
           have vg:=jV (P:=E.P) hb (l.off+o) vs yp
           rw[Vi] at vg
           simp only[Instr.loadAt,Instr.sureAddr,Sem.run_bind,Sem.run_pure,Result.andThen_ok,loadVar,mJ ha,if_true,cM hn,vg]
         · simp at e
       · simp at e
     · rename_i ha
       obtain ⟨y,hy,hr⟩:=hc.val o v e
       refine ⟨y,hr,fun w' Vj=>?_⟩
       rw[←Vj] at hb
       simp only[Instr.loadAt,Instr.sureAddr,Sem.run_bind,Sem.run_pure,Result.andThen_ok,loadVar,mJ ha,Bool.false_eq_true,if_false,run_load,cell_of_heap hb,hy]
     · simp at e
   · simp at e
 · simp at e
theorem Cg {P:Program} (l:List Int):∀(vs:List Value) (acc:ByteArray) (w:World),vs=l.map (fun n=>Value.int .u8 n)→
 (forIn vs acc (fun c s=>(match c with | .int .u8 n=>do pure (ForInStep.yield (s.push (UInt8.ofNat n.toNat))) | _=>do stuck "bytesToString: byte expected";pure (ForInStep.yield s):Sem (ForInStep ByteArray)))).run P w= .ok ⟨(acc.data.toList++l.map (fun n=>UInt8.ofNat n.toNat)).toArray⟩ w:=by
 induction l with
 | nil=>intro vs acc w h;simp at h;subst h;simp [List.forIn_nil]
 | cons b l ih=>
   intro vs acc w h
   cases vs with
   | nil=>simp at h
   | cons v vs=>
     simp at h
     obtain ⟨rfl,E4⟩:=h
     simp only[List.forIn_cons,Sem.run_bind,Sem.run_pure,Result.andThen_ok]
     rw[ih vs _ w E4]
     simp [ByteArray.push]
theorem yY {φ:Ph} {d:TypeDesc} {k j:AV} {r:Bool} (hk:er (some d) k=true) (e:yQ k j=some r) {k' j':Value} (h:VR φ k k') (h':VR φ j j'):Instr.sameNow d k' j'=some r:=by
 unfold yQ at e
 split at e
 · generalize hs:AV.str _=s at h
   generalize mK:AV.str _=s' at h'
   cases h<;>cases hs
   cases h'<;>cases mK
   simp at e;subst e
   cases d<;>simp [er] at hk
   rename_i s s'
   simp only[Instr.sameNow]
   congr 1
 · cases h;cases h'
   split at e
   · rename_i sA
     simp at e;subst e;subst sA
     cases d<;>simp [er] at hk
     simp [Instr.sameNow]
   · simp at e
 · cases h;cases h'
   simp at e;subst e
   cases d<;>simp [er] at hk
   simp [Instr.sameNow]
 · simp at e
theorem mf {φ:Ph} {d:TypeDesc} {k:AV} {k':Value} (hk:er (some d) k=true) (h:VR φ k k'):∀{es:List dY} {dU:List MapEntry} (_:Cc φ es dU) {i:Nat} {r:Option (Nat×AV)} (_:ny k es i=some r),
 ∃r',Instr.findNow d k' dU i=some r'∧(match r,r' with | none,none=>True | some (j,v),some (j',v')=>j=j'∧VR φ v v'∧i≤j∧∃e,es[j - i]? =some e∧yQ k e.key=some true | _,_=>False)
 | [],dU,he,i,r,e=>by
   cases dU with
   | nil=>simp [ny] at e;subst e;exact ⟨none,rfl,trivial⟩
   | cons _ _=>simp [Cc] at he
 | x::es,dU,he,i,r,e=>by
   obtain ⟨hl,hv⟩:=he
   cases dU with
   | nil=>simp at hl
   | cons y ys=>
     have hx:=hv 0 x y (by simp) (by simp)
     simp only[ny] at e
     split at e
     · rename_i heq
       simp at e;subst e
       refine ⟨some (i,y.val),?_,rfl,hx.val,Nat.le_refl _,x,by simp,heq⟩
       simp [Instr.findNow,yY hk heq h hx.key]
     · rename_i heq
       obtain ⟨r',h1,h2⟩:=mf hk h (es:=es) (dU:=ys) ⟨by simpa using hl,fun i a b p q=>hv (i+1) a b (by simpa using p) (by simpa using q)⟩ e
       refine ⟨r',?_,?_⟩
       · simp [Instr.findNow,yY hk heq h hx.key,h1]
       · cases r with
         | none=>cases r' with
           | none=>trivial
           | some _=>exact h2
         | some p=>
           obtain ⟨j,v⟩:=p
           cases r' with
           | none=>exact h2
           | some q=>
             obtain ⟨j',v'⟩:=q
             obtain ⟨h3,h4,h5,e',h6,h7⟩:=h2
             refine ⟨h3,h4,by omega,e',?_,h7⟩
             rw[show j - i=(j -(i+1))+1 by omega];simpa using h6
     · simp at e
theorem mL {P:Program} {t:TypeId} {d:TypeDesc} (hu:P.underlying t=some d) {k:AV} (hk:er (some d) k=true) {φ:Ph} {k':Value} (h:VR φ k k') (b:Bool) (n:Nat) (w:World):
 (Instr.checkKey b (n+1) t k').run P w= .ok () w:=by
 unfold Instr.checkKey
 rw[Sem.run_bind,run_underlying hu]
 cases d<;>simp [er] at hk<;>cases h<;>first | rfl | (simp [er] at hk)
theorem rh {P:Program} {w:World} {a:Addr} {n:Nat} (l:List Int) (hl:(loadCells a n).run P w= .ok ((l.map (fun n=>Value.int .u8 n)).toArray) w) (c:Nat):
 (Conv.bytesToString (.slice (some a) n c)).run P w= .ok (.string ⟨(l.map (fun n=>UInt8.ofNat n.toNat)).toArray⟩) w:=by
 unfold Conv.bytesToString
 simp only[Sem.run_bind,hl,Result.andThen_ok]
 have:=Cg (P:=P) l (l.map (fun n=>Value.int .u8 n)) ByteArray.empty w rfl
 have e:forIn (m:=Sem) (l.map (fun n=>Value.int .u8 n)).toArray ByteArray.empty (fun c s=>(match c with | .int .u8 n=>do pure (ForInStep.yield (s.push (UInt8.ofNat n.toNat))) | _=>do stuck "bytesToString: byte expected";pure (ForInStep.yield s):Sem (ForInStep ByteArray)))
  =forIn (m:=Sem) (l.map (fun n=>Value.int .u8 n)) ByteArray.empty (fun c s=>(match c with | .int .u8 n=>do pure (ForInStep.yield (s.push (UInt8.ofNat n.toNat))) | _=>do stuck "bytesToString: byte expected";pure (ForInStep.yield s):Sem (ForInStep ByteArray))):=by
  rw[←Array.forIn_toList]
 rw[←e] at this
 refine (congrArg (fun r=>Result.andThen r fun a w'=>Sem.run P (pure (Value.string a)) w') this).trans ?_
 simp
theorem tP {φ:Ph}:∀{cs:List AV} {vs:List Value} (_:LR φ cs vs) {l:List UInt8} (_:cD (fun | .int .u8 b=>some (UInt8.ofNat b.toNat) | _=>none) cs=some l),
 ∃ns:List Int,vs=ns.map (fun n=>Value.int .u8 n)∧l=ns.map (fun n=>UInt8.ofNat n.toNat)
 | [],vs,hv,l,h=>by rw[hv.dG];simp [cD] at h;subst h;exact ⟨[],rfl,rfl⟩
 | c::cs,vs,hv,l,h=>by
   obtain ⟨y,ys,rfl,hy,pT⟩:=hv.bQ
   simp only[cD] at h
   split at h
   · simp at h
   · rename_i b hb
     split at h
     · simp at h
     · rename_i bs hbs
       simp at h;subst h
       obtain ⟨ns,rfl,rfl⟩:=tP pT hbs
       split at hb
       · cases hy
         simp at hb;subst hb
         exact ⟨_::ns,rfl,rfl⟩
       · simp at hb
structure Entries (P:Program) (x:Value) (es:Array MapEntry) (w:World):Prop where
 is:(x= .map none∧es= #[])∨∃r clock,x= .map (some r)∧w.heap[r]? =some (.map es clock)
theorem vh {P:Program} {t key elem:TypeId} (hu:P.underlying t=some (.map key elem)) {x k:Value} {es:Array MapEntry} {w:World} (sJ:Entries P x es w)
 {d:TypeDesc} (hd:P.underlying key=some d) (Ao:∀b n,(Instr.checkKey b (n+1) key k).run P w= .ok () w) {r:Option (Nat×Value)} (hf:Instr.findNow d k es.toList 0=some r) {z:Value} (hz:r=none→(zeroValue elem).run P w= .ok z w) (ok:Bool):
 (Instr.lookup t x k ok).run P w= .ok (match r with | some (_,v)=>if ok then .tuple #[v,.bool true] else v | none=>if ok then .tuple #[z,.bool false] else z) w:=by
 have Ih:=fun b=>Ao b 9999
 rw[Instr.lookup]
 simp only[Sem.run_bind,run_underlying hu,Result.andThen_ok]
 rcases sJ.is with ⟨rfl,rfl⟩ | ⟨b,clock,rfl,hb⟩
 · simp only[Sem.run_bind,Sem.run_pure,Result.andThen_ok,Ih,Instr.findKey,run_underlying hd,hf]
   cases r with
   | none=>simp [hz rfl]
   | some q=>simp
 · have tQ:(getObj b).run P w= .ok (.map es clock) w:=by simp [getObj,Sem.run,hb]
   simp only[Sem.run_bind,Sem.run_pure,Result.andThen_ok,tQ,Ih,Instr.findKey,run_underlying hd,hf]
   cases r with
   | none=>simp [hz rfl]
   | some q=>simp
theorem tR {P:Program} {t key elem:TypeId} (hu:P.underlying t=some (.map key elem)) {x k:Value} {es:Array MapEntry} {w:World} (sJ:Entries P x es w)
 (Ao:∀b,(Instr.checkKey b 10000 key k).run P w= .ok () w) {r:Option (Nat×Value)} (hf:(Instr.findKey key k es.toList).run P w= .ok r w) {z:Value} (hz:r=none→(zeroValue elem).run P w= .ok z w) (ok:Bool):
 (Instr.lookup t x k ok).run P w= .ok (match r with | some (_,v)=>if ok then .tuple #[v,.bool true] else v | none=>if ok then .tuple #[z,.bool false] else z) w:=by
 rw[Instr.lookup]
 simp only[Sem.run_bind,run_underlying hu,Result.andThen_ok]
 rcases sJ.is with ⟨rfl,rfl⟩ | ⟨b,clock,rfl,hb⟩
 · simp only[Sem.run_bind,Sem.run_pure,Result.andThen_ok,Ao,hf]
   cases r with
   | none=>simp [hz rfl]
   | some q=>simp
 · have tQ:(getObj b).run P w= .ok (.map es clock) w:=by simp [getObj,Sem.run,hb]
   simp only[Sem.run_bind,Sem.run_pure,Result.andThen_ok,tQ,Ao,hf]
   cases r with
   | none=>simp [hz rfl]
   | some q=>simp
theorem tS {φ:Ph} (hg:GL E φ) {h:ag} {w:World} (ok:OK E φ h w) {ts:List AV} {a:Act} (ht:LR φ ts a.tmps.toList) {o:Oper} {v:AV} (e:cB E ts h o.op=some v):
 ∃v',VR φ v v'∧∀w',w'.heap=w.heap→(execOp a.eval o).run E.P w'= .ok (.value v') w':=by
 have ev:∀{x:Operand} {v:AV},cx E ts x=some v→VR φ v (a.eval x):=fun h=>jD hg ht h
 unfold execOp
 generalize o.op=op at e ⊢
 unfold cB at e
 split at e
 ·
  split at e
  · rename_i hx
    obtain ⟨x',Vk,hr⟩:=yX ok (ev hx) e
    exact ⟨x',Vk,fun w' hw=>dc (hr w' hw)⟩
  · simp at e
 ·
  split at e
  · rename_i el v0 hs hd hx
    split at e
    · rename_i he
      simp at e;subst e
      have h1:=ev hx
      generalize ij:a.eval _=cv at h1
      cases h1
      refine ⟨.string .empty,VR.str .empty,fun w' _=>dc ?_⟩
      simp [ij,convert,run_underlying hs,run_underlying hd,run_underlying he,Conv.bytesToString]
    · rename_i i o len _ _ he
      split at e
      · rename_i l hb
        simp at e;subst e
        have h1:=ev hx
        generalize ij:a.eval _=cv at h1
        cases h1 with
        | @slice _ lc _ _ _ _ hφ=>
        unfold pq at hb
        split at hb
        · rename_i cs el' ro hgc
          split at hb
          · rename_i hle
            obtain ⟨C,e',lo,hi,hbk,hc⟩:=ok.cells hgc hφ
            obtain ⟨vs,Vi,yp,tN⟩:=hc.range o len hle
            obtain ⟨ns,rfl,rfl⟩:=tP tN hb
            refine ⟨.string ⟨(ns.map (fun n=>UInt8.ofNat n.toNat)).toArray⟩,?_,fun w' Vj=>dc ?_⟩
            · have:=VR.str (φ:=φ) ⟨(ns.map (fun n=>UInt8.ofNat n.toNat)).toArray⟩
              simpa using this
            · rw[←Vj] at hbk
              have vg:=jV (P:=E.P) hbk (lc.off+o) _ yp
              rw[Vi] at vg
              have:=rh ns vg (dx ‹_› ‹_› lc.eI)
              rw[ij]
              simp only[convert,Sem.run_bind,run_underlying hs,run_underlying hd,Result.andThen_ok,run_underlying he]
              exact this
          · simp at hb
        · simp at hb
      · simp at e
    · simp at e
  · simp at e
 ·
  rename_i t x ix cW
  split at e
  · rename_i key elem m k hu hm hk
    split at e
    · rename_i sA
      have Ap:∃d,E.P.underlying key=some d∧er (some d) k=true:=by
       cases hd:E.P.underlying key with
       | none=>rw[hd] at sA;simp [er] at sA
       | some d=>rw[hd] at sA;exact ⟨d,rfl,sA⟩
      obtain ⟨d,hd,sK⟩:=Ap
      have Ow:=ev hm
      have JY:=ev hk
      split at e
      · simp at e
      · rename_i es sJ
        have qp:∃dU:Array MapEntry,Cc φ es dU.toList∧∀w',w'.heap=w.heap→Entries E.P (a.eval x) dU w':=by
         split at sJ
         · simp at sJ;subst sJ
           generalize ij:a.eval x=cv at Ow
           cases Ow
           exact ⟨#[],⟨rfl,fun i x y p _=>by simp at p⟩,fun w' _=>⟨.inl ⟨rfl,rfl⟩⟩⟩
         · rename_i i
           split at sJ
           · rename_i es0 clock Vl
             simp at sJ;subst sJ
             generalize ij:a.eval x=cv at Ow
             cases Ow with
             | @map _ l hφ=>
             have uQ:=ok.live i _ l Vl hφ
             obtain ⟨B7,dU,hb,d_⟩:=uQ
             exact ⟨dU,d_,fun w' hw=>⟨.inr ⟨l.cG,clock,rfl,by rw[hw];exact hb⟩⟩⟩
           · simp at sJ
         · simp at sJ
        obtain ⟨dU,d_,dZ⟩:=qp
        split at e
        · simp at e
        · rename_i j v0 hf
          obtain ⟨r',h1,h2⟩:=mf sK JY d_ hf
          cases r' with
          | none=>exact h2.elim
          | some q=>
          obtain ⟨j',v'⟩:=q
          obtain ⟨_,yp,_⟩:=h2
          simp at e;subst e
          refine ⟨if cW then .tuple #[v',.bool true] else v',?_,fun w' hw=>dc ?_⟩
          · split
            · exact VR.tuple' (eE:=[v',.bool true]) (.cons yp (.cons (.bool true) (.nil φ)))
            · exact yp
          · exact vh hu (dZ w' hw) hd (fun b n=>mL hd sK JY b n w') h1 (z:=undef) (fun e=>by simp at e) cW
        · rename_i hf
          obtain ⟨r',h1,h2⟩:=mf sK JY d_ hf
          cases r' with
          | some q=>exact h2.elim
          | none=>
          split at e
          · rename_i z hz
            simp at e;subst e
            obtain ⟨z',sy,f'⟩:=eQ hz
            refine ⟨if cW then .tuple #[z',.bool false] else z',?_,fun w' hw=>dc ?_⟩
            · split
              · exact VR.tuple' (eE:=[z',.bool false]) (.cons (sy φ) (.cons (.bool false) (.nil φ)))
              · exact sy φ
            · exact vh hu (dZ w' hw) hd (fun b n=>mL hd sK JY b n w') h1 (fun _=>f' w') cW
          · simp at e
    · split at e
      · rename_i sA
        have Ap:∃d,E.P.underlying key=some d∧fh E (some d) k=true:=by
         cases hd:E.P.underlying key with
         | none=>rw[hd] at sA;simp [fh] at sA
         | some d=>rw[hd] at sA;exact ⟨d,rfl,sA⟩
        obtain ⟨d,hd,sK⟩:=Ap
        have Ow:=ev hm
        have JY:=ev hk
        split at e
        · simp at e
        · rename_i es sJ
          have qp:∃dU:Array MapEntry,Cc φ es dU.toList∧∀w',w'.heap=w.heap→Entries E.P (a.eval x) dU w':=by
           split at sJ
           · simp at sJ;subst sJ
             generalize ij:a.eval x=cv at Ow
             cases Ow
             exact ⟨#[],⟨rfl,fun i x y p _=>by simp at p⟩,fun w' _=>⟨.inl ⟨rfl,rfl⟩⟩⟩
           · rename_i i
             split at sJ
             · rename_i es0 clock Vl
               simp at sJ;subst sJ
               generalize ij:a.eval x=cv at Ow
               cases Ow with
               | @map _ l hφ=>
               have uQ:=ok.live i _ l Vl hφ
               obtain ⟨B7,dU,hb,d_⟩:=uQ
               exact ⟨dU,d_,fun w' hw=>⟨.inr ⟨l.cG,clock,rfl,by rw[hw];exact hb⟩⟩⟩
             · simp at sJ
           · simp at sJ
          obtain ⟨dU,d_,dZ⟩:=qp
          split at e
          · simp at e
          · rename_i j v0 hf
            obtain ⟨r',h1,h2⟩:=iW JY d_ hf
            cases r' with
            | none=>exact h2.elim
            | some q=>
            obtain ⟨j',v'⟩:=q
            obtain ⟨_,yp,_⟩:=h2
            simp at e;subst e
            refine ⟨if cW then .tuple #[v',.bool true] else v',?_,fun w' hw=>dc ?_⟩
            · split
              · exact VR.tuple' (eE:=[v',.bool true]) (.cons yp (.cons (.bool true) (.nil φ)))
              · exact yp
            · exact tR hu (dZ w' hw) (fun b=>lD hd sK JY b 9998 w') (gL hd sK JY (h1 w')) (z:=undef) (fun e=>by simp at e) cW
          · rename_i hf
            obtain ⟨r',h1,h2⟩:=iW JY d_ hf
            cases r' with
            | some q=>exact h2.elim
            | none=>
            split at e
            · rename_i z hz
              simp at e;subst e
              obtain ⟨z',sy,f'⟩:=eQ hz
              refine ⟨if cW then .tuple #[z',.bool false] else z',?_,fun w' hw=>dc ?_⟩
              · split
                · exact VR.tuple' (eE:=[z',.bool false]) (.cons (sy φ) (.cons (.bool false) (.nil φ)))
                · exact sy φ
              · exact tR hu (dZ w' hw) (fun b=>lD hd sK JY b 9998 w') (gL hd sK JY (h1 w')) (fun _=>f' w') cW
            · simp at e
      · simp at e
  · simp at e
 ·
  split at e
  · rename_i t i Jy E4
    have hl:=eP hg ht E4
    obtain ⟨y,ys,pT,hy,Ak⟩:=hl.bQ
    rw[Ak.dG] at pT
    have h0:∀(args:Array Operand),args.toList.map a.eval=[y]→args.map a.eval= #[y]:=fun args e=>by rw[map_toArray,e]
    have h0:=h0 _ pT
    cases hy with
    | @map _ l hφ=>
    split at e
    · rename_i es clock hu Vl
      simp at e;subst e
      have uQ:=ok.live i _ l Vl hφ
      obtain ⟨B7,dU,hb,hlen,_⟩:=uQ
      refine ⟨_,.int _ _,fun w' hw=>?_⟩
      rw[←hw] at hb
      have tQ:(getObj l.cG).run E.P w'= .ok (.map dU clock) w':=by simp [getObj,Sem.run,hb]
      simp [resolve,invoke,builtin,h0,Builtin.len_,Jy,run_underlying hu,goInt,tQ,hlen]
    · simp at e
  · simp at e
 · simp at e
end Go.Ab
end
section
namespace Go.Ab
variable {E:Env}
theorem ri (z:List AV):∀(n i:Nat),i<n*z.length→(dD z n)[i]? =z[i%z.length]?
 | 0,i,h=>by omega
 | n+1,i,h=>by
   rw[dD]
   by_cases hi:i<z.length
   · rw[List.getElem?_append_left hi,Nat.mod_eq_of_lt hi]
   · rw[List.getElem?_append_right (by omega),ri z n (i - z.length) (by rw[Nat.add_mul] at h;omega)]
     rw[Nat.mod_eq_sub_mod (a:=i) (by omega)]
theorem jE (z:List AV):∀n,(dD z n).length=n*z.length
 | 0=>by simp [dD]
 | n+1=>by rw[dD,List.length_append,jE z n,Nat.add_mul];omega
theorem E5 {φ:Ph} {z:List AV} {z':Array Value} (h:LR φ z z'.toList) (n:Nat):LR φ (dD z n) ((Array.range (n*z'.size)).map (fun i=>z'[i%z'.size]!)).toList:=by
 have hl:z.length=z'.size:=by simpa using h.1
 refine ⟨by rw[jE];simp [hl],fun i x y hx hy=>?_⟩
 have hi:i<n*z.length:=by
  have:=(List.getElem?_eq_some_iff.1 hx).1
  rwa [jE] at this
 rw[ri z n i hi] at hx
 obtain ⟨v,hv,hr⟩:=h.get hx
 have So:0<z'.size:=by
  rcases Nat.eq_zero_or_pos z'.size with h0 | h0
  · rw[hl,h0] at hi;omega
  · exact h0
 have:i%z'.size<z'.size:=Nat.mod_lt _ So
 rw[hl] at hi
 simp [hi] at hy
 rw[hl] at hv
 simp [this] at hv
 simp [this] at hy
 rw[←hy,hv];exact hr
structure Made (E:Env) (φ:Ph) (obj:aw) (mk:Nat→AV) (O:Obj) (mk':Nat→Value):Prop where
 val:∀(φ':Ph) (i b:Nat),φ.le φ'→φ' i=some ⟨b,0,0⟩→VR φ' (mk i) (mk' b)
 obj:∀(φ':Ph) (b:Nat),φ.le φ'→OR E φ' obj ⟨b,0,0⟩ (some O)
theorem rj {φ φ':Ph} (hle:φ.le φ') {cs:List AV} {C:Array Value} (h:LR φ cs C.toList) (t:TypeId) (b:Nat):OR E φ' (.cells cs t false) ⟨b,0,0⟩ (some (.cells C t)):=by
 refine ⟨C,t,0,0,rfl,⟨?_,fun k x hk=>?_,fun _ k _ _=>by omega,fun _ _ _=>rfl⟩,fun _=>⟨rfl,rfl,fun _ _ _=>by have:=h.1;simp at this;exact this.symm⟩⟩
 · have:=h.1;simp at this;simp [dy,this]
 · obtain ⟨y,hy,hr⟩:=h.get hk
   exact ⟨y,by simpa using hy,hr.mono hle⟩
set_option linter.unusedSimpArgs false in
set_option maxHeartbeats 1000000 in
theorem rk {φ:Ph} (hg:GL E φ) {ts:List AV} {a:Act} (ht:LR φ ts a.tmps.toList) {o:Oper} {obj:aw} {mk:Nat→AV} (e:cq E ts o.op=some (obj,mk)):
 ∃O mk',Made E φ obj mk O mk'∧∀w,(execOp a.eval o).run E.P w= .ok (.value (mk' w.heap.size)) (w.alloc O):=by
 have ev:∀{x:Operand} {v:AV},cx E ts x=some v→VR φ v (a.eval x):=fun h=>jD hg ht h
 unfold execOp
 generalize o.op=op at e ⊢
 unfold cq at e
 split at e
 ·
  rename_i t
  split at e
  · rename_i z hz
    simp at e;obtain ⟨rfl,rfl⟩:=e
    obtain ⟨z',sy,f'⟩:=eQ hz
    refine ⟨.cells z'.cells t,fun b=> .pointer (some ⟨b,0,none⟩),⟨fun φ' i b _ hi=>by have:=VR.ptr (φ:=φ') 0 hi;simpa using this,fun φ' b hle=>rj hle (sy φ).cells _ b⟩,fun w=>dc ?_⟩
    simp [Instr.alloc,f',newVar,newRow]
  · simp at e
 ·
  rename_i t x
  split at e
  · rename_i v hv
    simp at e;obtain ⟨rfl,rfl⟩:=e
    refine ⟨.cells (a.eval x).cells t,fun b=> .pointer (some ⟨b,0,none⟩),⟨fun φ' i b _ hi=>by have:=VR.ptr (φ:=φ') 0 hi;simpa using this,fun φ' b hle=>rj hle (ev hv).cells _ b⟩,fun w=>dc ?_⟩
    simp [Instr.box,newVar,newRow]
  · simp at e
 ·
  rename_i t len parts
  split at e
  · rename_i elem hu
    split at e
    · rename_i n z ps hn hz Y_
      split at e
      · rename_i hc
        split at e
        · rename_i cs hf
          simp at e;obtain ⟨rfl,rfl⟩:=e
          obtain ⟨z',sy,f'⟩:=eQ hz
          have hp:=sH hg ht Y_
          have Sp:z'.cells.size=n:=by have:=(sy φ).cells.1;simp at this;omega
          have JZ:=E5 (sy φ).cells len
          rw[Sp] at JZ
          obtain ⟨C',tM,tN⟩:=pw (place:=fun i=>some (i*n,n)) (qs:=(parts.map fun (i,x)=>(i,a.eval x)).toList) (by simpa using hp) JZ hf
          refine ⟨.cells C' elem,fun b=> .slice (some ⟨b,0,none⟩) len len,⟨fun φ' i b _ hi=>by have:=VR.slice (φ:=φ') 0 len len false hi;simpa [dx] using this,fun φ' b hle=>rj hle tN _ b⟩,fun w=>dc ?_⟩
          have Zb:¬len*n>2^24:=by omega
          simp only[Instr.buildSlice,Sem.run_bind,run_underlying hu,Result.andThen_ok,cM hn,Zb,if_false,Sem.run_pure]
          by_cases h0:len*n=0
          · simp only[h0,if_true,Sem.run_pure,Result.andThen_ok]
            rw[h0] at tM
            have r0:Array.range 0= #[]:=rfl
            simp [r0] at tM
            simp [tM,newRow,r0]
          · simp only[h0,if_false,Sem.run_bind,f',Result.andThen_ok,Sem.run_pure]
            rw[Sp]
            simp only[tM]
            simp [newRow]
        · simp at e
      · simp at e
    · simp at e
  · simp at e
 ·
  rename_i t lo co
  split at e
  · rename_i elem k len k' cap hu hl hc
    split at e
    · rename_i n bytes z hn hb hz
      split at e
      · rename_i E1
        obtain ⟨c1,c2,c3,c4,c5⟩:=E1
        simp at e;obtain ⟨rfl,rfl⟩:=e
        obtain ⟨z',sy,f'⟩:=eQ hz
        have Sp:z'.cells.size=n:=by have:=(sy φ).cells.1;simp at this;omega
        have JZ:=E5 (sy φ).cells cap.toNat
        rw[Sp] at JZ
        have h1:=ev hl
        have h2:=ev hc
        generalize Ch:a.eval lo=lv at h1
        generalize ij:a.eval co=cv at h2
        cases h1;cases h2
        refine ⟨.cells ((Array.range (cap.toNat*n)).map (fun i=>z'.cells[i%n]!)) elem,fun b=> .slice (some ⟨b,0,none⟩) len.toNat cap.toNat,
         ⟨fun φ' i b _ hi=>by have:=VR.slice (φ:=φ') 0 len.toNat cap.toNat false hi;simpa [dx] using this,fun φ' b hle=>rj hle JZ _ b⟩,fun w=>dc ?_⟩
        have w1:IntKind.i64.wrap len=len:=IntWalk.i64_in _ (by omega)
        have w2:IntKind.i64.wrap cap=cap:=IntWalk.i64_in _ (by omega)
        obtain ⟨inf,Ci,dP⟩:=mc (pt _ hb) w
        have t1:¬(cap<0∨(2^48:Int)<bytes*cap):=by omega
        simp only[Instr.makeSlice,Sem.run_bind,run_underlying hu,Result.andThen_ok,Ch,ij,asInt,asIntOf,Sem.run_pure,Ci,dP,w1,w2]
        have Sq:(0:Int)≤inf.bytes*cap:=Int.mul_nonneg (by omega) (by omega)
        have tl:(decide (cap<0)||decide ((inf.bytes:Int)*cap>2^48))=false:=by
         rw[dP];simp only[Bool.or_eq_false_iff,decide_eq_false_iff_not];omega
        have tl2:decide (len<0)=false:=by simp only[decide_eq_false_iff_not];omega
        have tl3:decide (len>cap)=false:=by simp only[decide_eq_false_iff_not];omega
        rw[←dP]
        simp only[tl,tl2,tl3,Bool.or_self,Bool.false_eq_true,if_false,run_askRoom,cM hn,Sem.run_bind,Result.andThen_ok]
        by_cases h0:cap.toNat*n=0
        · have r0:Array.range 0= #[]:=rfl
          simp [h0,newRow,r0]
        · simp only[h0,if_false,Sem.run_bind,f',Result.andThen_ok,Sem.run_pure]
          simp [newRow,Sp]
      · simp at e
    · simp at e
  · simp at e
 ·
  rename_i t r
  split at e
  · simp at e;obtain ⟨rfl,rfl⟩:=e
    exact ⟨.map #[] 0,fun b=> .map (some b),⟨fun φ' i b _ hi=>by have:=VR.map (φ:=φ') hi;simpa using this,fun φ' b hle=>⟨rfl, #[],rfl,rfl,fun i x y p _=>by simp at p⟩⟩,fun w=>dc (by simp [Instr.makeMap])⟩
  · rename_i o
    split at e
    · rename_i hu hv
      simp at e;obtain ⟨rfl,rfl⟩:=e
      have h1:=ev hv
      generalize Ch:a.eval o=lv at h1
      cases h1
      exact ⟨.map #[] 0,fun b=> .map (some b),⟨fun φ' i b _ hi=>by have:=VR.map (φ:=φ') hi;simpa using this,fun φ' b hle=>⟨rfl, #[],rfl,rfl,fun i x y p _=>by simp at p⟩⟩,fun w=>dc (by simp [Instr.makeMap,run_underlying hu,Ch,asInt,asIntOf])⟩
    · simp at e
 ·
  rename_i t x
  split at e
  · rename_i s hu hx
    simp at e;obtain ⟨rfl,rfl⟩:=e
    have h1:=ev hx
    generalize Ch:a.eval x=lv at h1
    generalize E3:AV.str s=s0 at h1
    cases h1<;>cases E3
    rename_i s'
    exact ⟨.stringIter s' 0,fun b=> .pointer (some ⟨b,0,none⟩),⟨fun φ' i b _ hi=>by have:=VR.ptr (φ:=φ') 0 hi;simpa using this,fun φ' b hle=>⟨rfl,s',rfl,rfl⟩⟩,fun w=>dc (by simp [Instr.range,run_underlying hu,Ch])⟩
  · rename_i hu hx
    simp at e;obtain ⟨rfl,rfl⟩:=e
    have h1:=ev hx
    generalize Ch:a.eval x=lv at h1
    cases h1
    exact ⟨.mapIter none 0 #[] 0,fun b=> .pointer (some ⟨b,0,none⟩),⟨fun φ' i b _ hi=>by have:=VR.ptr (φ:=φ') 0 hi;simpa using this,fun φ' b hle=>⟨rfl,rfl⟩⟩,fun w=>dc (by simp [Instr.range,run_underlying hu,Ch])⟩
  · simp at e
 · simp at e
end Go.Ab
end
