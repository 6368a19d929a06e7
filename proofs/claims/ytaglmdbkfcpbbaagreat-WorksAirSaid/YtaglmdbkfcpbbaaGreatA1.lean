import Derived.Laws.StructEq
import Derived.Laws.Slices
import Derived.Laws.Strings
import Derived.ChangeKeysEq
import Derived.Deep.MidRow
import Derived.Lib.Strings
import Derived.IntWalk
import Derived.Test.YtaglmdbkfcpbbaaGreatA0
set_option linter.unusedVariables false
set_option linter.unusedSimpArgs false
section
namespace Go.Ab
variable {E:Env}
def GL (E:Env) (φ:Ph):Prop:=∀g,g<E.G→φ g=some ⟨g,0,0⟩
theorem ml {φ:Ph} (hg:GL E φ) {ts:List AV} {a:Act} (ht:LR φ ts a.tmps.toList) {x:Operand} {v:AV} (h:ez E ts x=some v):VR φ v (a.eval x):=by
 cases x with
 | tmp t=>
   simp only[ez,Option.some.injEq] at h;subst h
   have:=ht.getD (VR.undef φ) t
   rw[show a.eval (.tmp t)=a.tmps.toList.getD t undef by simp [Act.eval,Array.getD_eq_getD_getElem?,List.getD]]
   exact this
 | const c=>exact xn φ h
 | global g=>
   simp only[ez] at h
   split at h
   · rename_i lf;simp at h;subst h;have:=VR.ptr 0 (hg g lf);simpa [Act.eval] using this
   · simp at h
 | func f=>simp [ez] at h;subst h;exact VR.IY (a':=[]) (b':=[]) f (LR.nil φ) (LR.nil φ)
theorem ic {φ:Ph} (hg:GL E φ) {ts:List AV} {a:Act} (ht:LR φ ts a.tmps.toList) {l:List Operand} {r:List AV} (h:fY E ts l=some r):LR φ r (l.map a.eval):=by
 obtain ⟨hl,hv⟩:=qA h
 refine ⟨by simp [hl],fun i x y hx hy=>?_⟩
 simp at hy
 obtain ⟨o,ho,rfl⟩:=hy
 obtain ⟨z,hz,he⟩:=hv i o ho
 rw[hx] at hz;simp at hz;subst hz
 exact ml hg ht he
theorem ew {P:Program} {t:TypeId} {n:Nat} (h:(P.info? t).map (·.size)=some n) (w:World):(sizeOf t).run P w= .ok n w:=by
 cases hq:P.info? t with
 | none=>simp [hq] at h
 | some i=>simp [hq] at h;simp [sizeOf,typeInfo,hq,h]
theorem oA {P:Program} {t:TypeId} {n:Nat} (h:(P.info? t).map (·.bytes)=some n) (w:World):∃i,(typeInfo t).run P w= .ok i w∧i.bytes=n:=by
 cases hq:P.info? t with
 | none=>simp [hq] at h
 | some i=>simp [hq] at h;exact ⟨i,by simp [typeInfo,hq],h⟩
theorem iM {t:TypeId} {z:AV} (h:gH E t=some z):∃z',(∀φ,VR φ z z')∧∀w,(zeroValue t).run E.P w= .ok z' w:=by
 unfold gH at h
 split at h
 · rename_i i hi
   split at h
   · rename_i z' hz
     exact ⟨z',fun φ=>xn φ h,fun w=>by simp [zeroValue,typeInfo,hi,hz]⟩
   · simp at h
 · simp at h
theorem pq {t:TypeId} {b:Bool} (h:gr E t=some b) (w:World):(isAgg t).run E.P w= .ok b w:=by
 unfold gr at h
 unfold isAgg
 rw[Sem.run_bind]
 split at h<;>rename_i hu<;>simp at h
 · subst h;rw[run_underlying hu];rfl
 · subst h;rw[run_underlying hu];rfl
 · rename_i d h1 h2
   subst h;rw[run_underlying hu]
   cases d<;>first | rfl | (exact absurd rfl (h1 _)) | (exact absurd rfl (h2 _ _))
theorem toArray_extract (l:List Value) (a b:Nat):l.toArray.extract a b=((l.drop a).take (b - a)).toArray:=by simp
theorem oB {φ:Ph} {t:TypeId} {cs:List AV} {iD:List Value} (hc:LR φ cs iD) {off:Nat} {v:AV} (h:je E t cs off=some v):
 ∃v',VR φ v v'∧∀w,(part t iD.toArray off).run E.P w= .ok v' w:=by
 unfold je at h
 split at h
 · rename_i ha
   split at h
   · rename_i n hn
     split at h
     · simp at h;subst h
       refine ⟨.agg ((iD.drop off).take n).toArray,VR.Hy ((hc.drop off).take n),fun w=>?_⟩
       simp only[part,Sem.run_bind,pq ha,Result.andThen_ok,if_true,ew hn,Sem.run_pure,toArray_extract,Nat.add_sub_cancel_left]
     · simp at h
   · simp at h
 · rename_i ha
   obtain ⟨y,hy,hv⟩:=hc.get h
   refine ⟨y,hv,fun w=>?_⟩
   simp only[part,Sem.run_bind,pq ha,Result.andThen_ok,Bool.false_eq_true,if_false]
   have:iD.toArray[off]? =some y:=by simpa using hy
   simp [this]
 · simp at h
theorem bytes_beq (a b:ByteArray):(a.toList==b.toList)=(a.data.toList==b.data.toList):=by rw[ByteArray.toList_eq,ByteArray.toList_eq]
set_option linter.unusedSimpArgs false in
theorem Ew {φ:Ph} {op:BinOp} {k:IntKind} {x y:Int} {v:AV} (h:dz op k x y=some v) (hs:op≠ .shl) (pr:op≠ .shr) (t:TypeId):
 ∃v',VR φ v v'∧∀w,(binOp op t (.int k x) (.int k y)).run E.P w= .ok v' w:=by
 unfold dz at h
 split at h
 all_goals first
  | (simp at h;subst h;exact ⟨_,.int _ _,fun w=>by simp [binOp,Op.intArith,Op.intBits,Op.intCmp]⟩)
  | (simp at h;subst h;exact ⟨_,.bool _,fun w=>by simp [binOp,Op.intArith,Op.intBits,Op.intCmp]⟩)
  | (split at h
     · simp at h
     · rename_i hy
       simp at h;subst h;exact ⟨_,.int _ _,fun w=>by simp [binOp,Op.intDiv,hy]⟩)
  | simp at h
set_option linter.unusedSimpArgs false in
theorem Ex {φ:Ph} {op:BinOp} {x y:ByteArray} {v:AV} (h:qu op x.data.toList y.data.toList=some v) (t:TypeId):
 ∃v',VR φ v v'∧∀w,(binOp op t (.string x) (.string y)).run E.P w= .ok v' w:=by
 unfold qu at h
 split at h
 · split at h
   · rename_i lf
     simp at h;subst h
     refine ⟨.string (x++y),?_,fun w=>?_⟩
     · have:=VR.str (φ:=φ) (x++y);simpa using this
     · have X8:x.size+y.size<1099511627776:=by
        have e:∀b:ByteArray,b.size=b.data.toList.length:=fun b=>by cases b;rfl
        rw[e,e];exact lf
       have hm:IntKind.i64.max=9223372036854775807:=by decide
       have:¬((x.size+y.size:Nat):Int) >IntKind.i64.max:=by rw[hm];omega
       simp only[binOp,Op.stringOp,this,if_false,Sem.run_pure]
   · simp at h
 all_goals first
  | (simp only[Option.some.injEq] at h;subst h;exact ⟨_,.bool _,fun w=>by simp only[binOp,Op.stringOp,bytes_beq,ByteArray.toList_eq,Sem.run_pure]⟩)
  | simp at h
theorem zX {φ:Ph} {t:TypeId} {x y:AV} {r:Bool} (h:Hx E t x y=some r) {x' y':Value} (hx:VR φ x x') (hy:VR φ y y') (dd:Nat):
 ∀w,(Op.equalIn (dd+1) t x' y').run E.P w= .ok r w:=by
 intro w
 unfold Hx at h
 split at h<;>(try (simp at h;done))
 all_goals
  rename_i hd
  split at h<;>(try (simp at h;done))
  all_goals
   simp only[Option.some.injEq] at h
   subst h
   unfold Op.equalIn
   rw[Sem.run_bind,run_underlying hd]
   cases hx<;>cases hy<;>rfl
theorem Ci {φ:Ph} {t:TypeId} {x y:AV} {r:Bool} (h:Hx E t x y=some r) {x' y':Value} (hx:VR φ x x') (hy:VR φ y y'):
 ∀w,(Op.equal t x' y').run E.P w= .ok r w:=zX h hx hy 9999
theorem oa {φ:Ph} {eq:TypeId→AV→AV→Option Bool} {d:Nat} (heq:∀t a b r a' b',eq t a b=some r→VR φ a a'→VR φ b b'→∀w,(Op.equalIn d t a' b').run E.P w= .ok r w)
 {xs ys:List AV} {xk uR:Array Value} (hx:LR φ xs xk.toList) (hy:LR φ ys uR.toList):∀{fs:List Field} {r:Bool} (_:mM E eq xs ys fs=some r) (w:World),(Op.eqFields d xk uR fs).run E.P w= .ok r w
 | [],r,h,w=>by simp [mM] at h;subst h;rfl
 | f::fs,r,h,w=>by
   simp only[mM] at h
   unfold Op.eqFields
   split at h
   · rename_i hn
     rw[if_neg (by simp [hn])]
     exact oa heq hx hy h w
   · rename_i hn
     rw[if_pos hn]
     split at h
     · rename_i a b ha hb
       obtain ⟨a',W3,UT⟩:=oB hx ha
       obtain ⟨b',W5,UU⟩:=oB hy hb
       rw[Array.toArray_toList] at UT UU
       split at h
       · rename_i he
         have:=oa heq hx hy h w
         simp [Sem.run_bind,UT,UU,heq _ _ _ _ _ _ he W3 W5,this]
       · rename_i he
         simp at h;subst h
         simp [Sem.run_bind,UT,UU,heq _ _ _ _ _ _ he W3 W5]
       · simp at h
     · simp at h
theorem mT {φ:Ph}:∀(n d:Nat) (t:TypeId) (a b:AV) (r:Bool) (a' b':Value) (_:kl E n t a b=some r) (_:VR φ a a') (_:VR φ b b') (w:World),(Op.equalIn (d+n) t a' b').run E.P w= .ok r w
 | 0,_,_,_,_,_,_,_,h,_,_,_=>by simp [kl] at h
 | n+1,d,t,a,b,r,a',b',h,ha,hb,w=>by
   rw[←Nat.add_assoc]
   unfold kl at h
   split at h
   · cases ha;cases hb
     split at h
     · rename_i hu
       split at h
       · rename_i hk;subst hk
         simp at h;subst h
         exact run_equalIn_int w (d+n) t _ _ _ _ hu
       · simp at h
     · simp at h
   · cases ha;cases hb
     split at h
     · rename_i hu
       simp only[Option.some.injEq] at h;subst h
       rw[run_equalIn_string w (d+n) t _ _ hu,ByteArray.toList_eq,ByteArray.toList_eq]
     · simp at h
   · obtain ⟨xk,rfl,Cj⟩:=ha.jz
     obtain ⟨uR,rfl,sB⟩:=hb.jz
     split at h
     · rename_i fs hu
       split at h
       · rename_i jd
         have Ua:E.P.fieldsOf t=fs:=by simp [Program.fieldsOf,hu]
         rw[run_equalIn_struct w (d+n) t xk uR (by rw[Ua];exact hu) jd,Ua]
         exact oa (fun t a b r a' b' h1 h2 h3 w=>mT n d t a b r a' b' h1 h2 h3 w) Cj sB h w
       · simp at h
     · simp at h
   · exact zX h ha hb (d+n) w
theorem vO {op:BinOp} {t:TypeId} (x y:Operand) (xs ys:Array Value) (h:E.P.eqGuardType E.P.depth t=false) (w:World):(eqGuard op t x y (.agg xs) (.agg ys)).run E.P w= .ok () w:=by
 unfold eqGuard
 cases op<;>(try rfl)
 all_goals simp [Sem.run_bind,run_program,h]
theorem sg {op:BinOp} (h1:op≠ .eql) (h2:op≠ .neq) (t:TypeId) (x y:Operand) (a b:Value) (w:World):(eqGuard op t x y a b).run E.P w= .ok () w:=by
 unfold eqGuard;cases op<;>first | rfl | (exact absurd rfl h1) | (exact absurd rfl h2)
def AU (xc yc:Bool):Value→Value→Bool
 | .nilIface,.nilIface=>xc||yc
 | .agg _,.agg _=>false
 | _,_=>true
theorem lL {op:BinOp} (t:TypeId) (x y:Operand) (a b:Value) (h:AU (isConst x) (isConst y) a b=true) (w:World):
 (eqGuard op t x y a b).run E.P w= .ok () w:=by
 unfold eqGuard
 cases op<;>(try rfl)
 all_goals
  cases a<;>cases b<;>first
   | rfl
   | (simp [AU] at h;done)
   | (cases x<;>cases y<;>first | rfl | (simp [AU,isConst] at h;done))
theorem zY {k k':IntKind} {x y:Int} (hy:¬y<0) (t:TypeId):
 (∀w,(binOp .shl t (.int k x) (.int k' y)).run E.P w= .ok (.int k (k.wrap (x*2^(min y.toNat k.bits)))) w)∧
 (∀w,(binOp .shr t (.int k x) (.int k' y)).run E.P w= .ok (.int k (x.fdiv (2^(min y.toNat k.bits)))) w):=by
 constructor<;>intro w<;>simp [binOp,Op.shift,hy]
theorem xw {φ:Ph} {a b:AV} {a' b':Value} (hx:VR φ a a') (hy:VR φ b b') {xo yo:Operand} (h:nO (isConst xo) (isConst yo) a b=true):
 AU (isConst xo) (isConst yo) a' b'=true:=by
 cases hx<;>cases hy<;>first | rfl | exact h | (simp [nO] at h;done)
def jV:Value→Prop
 | .float _ _ | .complex _ _ _=>False
 | _=>True
theorem VR.jV {φ:Ph} {a:AV} {a':Value} (h:VR φ a a'):Ab.jV a':=by
 cases h with
 | any _ h=>cases a'<;>first | exact trivial | cases h
 | _=>exact trivial
theorem binOp_eql (t:TypeId) {a b:Value} (h1:∀k m k' m',a= .int k m→b= .int k' m'→False) (h2:∀k m,a= .string k→b= .string m→False) (h3:jV a) (h4:jV b):
 binOp .eql t a b=(do pure (.bool (←Op.equal t a b)):Sem Value):=by
 unfold binOp
 split<;>first
  | rfl
  | contradiction
  | (exact (h1 _ _ _ _ rfl rfl).elim)
  | (exact (h2 _ _ rfl rfl).elim)
  | (exact h3.elim)
  | (exact h4.elim)
  | (exfalso;simp_all;done)
theorem binOp_neq (t:TypeId) {a b:Value} (h1:∀k m k' m',a= .int k m→b= .int k' m'→False) (h2:∀k m,a= .string k→b= .string m→False) (h3:jV a) (h4:jV b):
 binOp .neq t a b=(do pure (.bool (!(←Op.equal t a b))):Sem Value):=by
 unfold binOp
 split<;>first
  | rfl
  | contradiction
  | (exact (h1 _ _ _ _ rfl rfl).elim)
  | (exact (h2 _ _ rfl rfl).elim)
  | (exact h3.elim)
  | (exact h4.elim)
  | (exfalso;simp_all;done)
set_option linter.unusedSimpArgs false in
theorem I8 {φ:Ph} {op:BinOp} {t:TypeId} {xo yo:Operand} {a b v:AV} (h:kD E op t (isConst xo) (isConst yo) a b=some v) {a' b':Value} (hx:VR φ a a') (hy:VR φ b b'):
 ∃v',VR φ v v'∧∀w,(do eqGuard op t xo yo a' b';binOp op t a' b':Sem Value).run E.P w= .ok v' w:=by
 unfold kD at h
 split at h
 ·
  cases hx;cases hy
  split at h
  · simp at h
  · rename_i hn
    simp at h;subst h
    refine ⟨_,.int _ _,fun w=>?_⟩
    rw[Sem.run_bind,sg (by decide) (by decide)]
    exact (zY (E:=E) hn t).1 w
 · cases hx;cases hy
   split at h
   · simp at h
   · rename_i hn
     simp at h;subst h
     refine ⟨_,.int _ _,fun w=>?_⟩
     rw[Sem.run_bind,sg (by decide) (by decide)]
     exact (zY (E:=E) hn t).2 w
 · rename_i k x k' y h1 h2
   cases hx;cases hy
   split at h
   · rename_i hk;subst hk
     obtain ⟨v',hv,hr⟩:=Ew (φ:=φ) (E:=E) h h1 h2 t
     refine ⟨v',hv,fun w=>?_⟩
     rw[Sem.run_bind,lL _ _ _ _ _ rfl]
     exact hr w
   · simp at h
 · cases hx;cases hy
   obtain ⟨v',hv,hr⟩:=Ex (φ:=φ) (E:=E) h t
   refine ⟨v',hv,fun w=>?_⟩
   rw[Sem.run_bind,lL _ _ _ _ _ rfl]
   exact hr w
 ·
  split at h
  · simp at h
  · rename_i hg
    split at h
    · rename_i r hr
      simp at h;subst h
      refine ⟨_,.bool r,fun w=>?_⟩
      obtain ⟨xk,rfl,Cj⟩:=hx.jz
      obtain ⟨uR,rfl,sB⟩:=hy.jz
      rw[Sem.run_bind,vO _ _ _ _ (by simpa using hg)]
      have:=mT 16 9984 t _ _ r _ _ hr hx hy w
      simp only[Result.andThen_ok]
      rw[binOp_eql (a:= .agg xk) (b:= .agg uR) t (fun _ _ _ _ e=>by simp at e) (fun _ _ e=>by simp at e) trivial trivial,Sem.run_bind]
      rw[show (Op.equal t (.agg xk) (.agg uR)).run E.P w= .ok r w from this];rfl
    · simp at h
 · split at h
   · simp at h
   · rename_i hg
     split at h
     · rename_i r hr
       simp at h;subst h
       refine ⟨_,.bool (!r),fun w=>?_⟩
       obtain ⟨xk,rfl,Cj⟩:=hx.jz
       obtain ⟨uR,rfl,sB⟩:=hy.jz
       rw[Sem.run_bind,vO _ _ _ _ (by simpa using hg)]
       have:=mT 16 9984 t _ _ r _ _ hr hx hy w
       simp only[Result.andThen_ok]
       rw[binOp_neq (a:= .agg xk) (b:= .agg uR) t (fun _ _ _ _ e=>by simp at e) (fun _ _ e=>by simp at e) trivial trivial,Sem.run_bind]
       rw[show (Op.equal t (.agg xk) (.agg uR)).run E.P w= .ok r w from this];rfl
     · simp at h
 · rename_i h1 h2 _
   split at h
   · rename_i hg
     split at h
     · rename_i r hr
       simp at h;subst h
       refine ⟨_,.bool r,fun w=>?_⟩
       rw[Sem.run_bind,lL _ _ _ _ _ (xw hx hy hg)]
       have:=Ci hr hx hy w
       simp only[Result.andThen_ok]
       rw[binOp_eql t (fun k m k' m' e e'=>by subst e;subst e';cases hx<;>cases hy<;>first | exact h1 _ _ _ _ rfl rfl | (simp [nO] at hg;done)) (fun k m e e'=>by subst e;subst e';cases hx<;>cases hy<;>first | exact h2 _ _ rfl rfl | (simp [nO] at hg;done)) (VR.jV hx) (VR.jV hy)]
       rw[Sem.run_bind,this];rfl
     · simp at h
   · simp at h
 · rename_i h1 h2 _
   split at h
   · rename_i hg
     split at h
     · rename_i r hr
       simp at h;subst h
       refine ⟨_,.bool (!r),fun w=>?_⟩
       rw[Sem.run_bind,lL _ _ _ _ _ (xw hx hy hg)]
       have:=Ci hr hx hy w
       simp only[Result.andThen_ok]
       rw[binOp_neq t (fun k m k' m' e e'=>by subst e;subst e';cases hx<;>cases hy<;>first | exact h1 _ _ _ _ rfl rfl | (simp [nO] at hg;done)) (fun k m e e'=>by subst e;subst e';cases hx<;>cases hy<;>first | exact h2 _ _ rfl rfl | (simp [nO] at hg;done)) (VR.jV hx) (VR.jV hy)]
       rw[Sem.run_bind,this];rfl
     · simp at h
   · simp at h
 · simp at h
end Go.Ab
end
section
namespace Go.Ab
variable {E:Env}
theorem Md {φ:Ph} {op:UnOp} {x v:AV} (h:Rl op x=some v) {x':Value} (hx:VR φ x x'):∃v',VR φ v v'∧∀w,(Op.unary op x').run E.P w= .ok v' w:=by
 unfold Rl at h
 split at h
 · cases hx;simp at h;subst h;exact ⟨_,.int _ _,fun w=>by simp [Op.unary,Op.intArith]⟩
 · cases hx;simp at h;subst h;exact ⟨_,.int _ _,fun w=>by simp [Op.unary,Op.intBits]⟩
 · cases hx;simp at h;subst h;exact ⟨_,.bool _,fun w=>by simp [Op.unary]⟩
 · simp at h
theorem sC {φ:Ph} {x:AV} {y n:Nat} (h:mP x y=some n) {x':Value} (hx:VR φ x x') {y':Nat} (hy:y≤y') (code:BoundsCode):
 (∀w,(Instr.sliceBound x' y' code).run E.P w= .ok n w)∧n≤y:=by
 unfold mP at h
 split at h
 · split at h
   · rename_i hc
     cases hx
     simp at h;subst h
     refine ⟨fun w=>?_,by omega⟩
     simp only[Instr.sliceBound,asIntOf,Sem.run_bind,Sem.run_pure,Result.andThen_ok]
     rw[if_pos (by omega)];rfl
   · simp at h
 · simp at h
def Ey (φ:Ph):Option AV→Option Value→Prop
 | none,none=>True
 | some x,some y=>VR φ x y
 | _,_=>False
theorem xx (Pa:Bool) (len uT:Nat) (Ez AW zv:Option Value):Instr.sliceBounds Pa len uT Ez AW zv=(do
 let m←(match zv with | some v=>Instr.sliceBound v uT (if Pa then .slice3Acap else .slice3Alen) | none=>pure uT:Sem Nat)
 let h←(match AW,zv with | some v,some _=>Instr.sliceBound v m .slice3B | some v,none=>Instr.sliceBound v m (if Pa then .sliceAcap else .sliceAlen) | none,none=>pure len | none,some _=>stuck "Slice: max without high" :Sem Nat)
 let l←(match Ez with | some v=>Instr.sliceBound v h (if zv.isSome then .slice3C else .sliceB) | none=>pure 0:Sem Nat)
 pure (l,h,m)):=by
 unfold Instr.sliceBounds
 cases zv<;>cases AW<;>cases Ez<;>rfl
theorem nP {φ:Ph} {len cap:Nat} {lo hi mx:Option AV} {l h m:Nat} (e:j7 len cap lo hi mx=some (l,h,m)) {Ez AW zv:Option Value}
 (LP:Ey φ lo Ez) (LQ:Ey φ hi AW) (Me:Ey φ mx zv) {uT:Nat} (hc:cap≤uT) (Pa:Bool) (hlen:len≤cap):
 (∀w,(Instr.sliceBounds Pa len uT Ez AW zv).run E.P w= .ok (l,h,if mx.isNone then uT else m) w)∧l≤h∧h≤m∧m≤cap∧(mx=none→m=cap):=by
 unfold j7 at e
 split at e
 · simp at e
 rename_i m0 Ub
 have hm:(∀w,(match zv with | some v=>Instr.sliceBound v uT (if Pa then .slice3Acap else .slice3Alen) | none=>pure uT:Sem Nat).run E.P w= .ok (if mx.isNone then uT else m0) w)∧m0≤cap∧(mx=none→m0=cap):=by
  cases mx with
  | none=>
    cases zv with
    | some _=>exact Me.elim
    | none=>simp at Ub;subst Ub;exact ⟨fun w=>rfl,Nat.le_refl _,fun _=>rfl⟩
  | some v=>
    cases zv with
    | none=>exact Me.elim
    | some v'=>
      have:=fun code=>sC (E:=E) Ub (show VR φ v v' from Me) hc code
      exact ⟨(this _).1,(this .index).2,fun e=>by simp at e⟩
 split at e
 · simp at e
 rename_i h0 Uc
 have UW:m0≤(if mx.isNone then uT else m0):=by split<;>omega
 have hh:(∀w,(match AW,zv with | some v,some _=>Instr.sliceBound v (if mx.isNone then uT else m0) .slice3B | some v,none=>Instr.sliceBound v (if mx.isNone then uT else m0) (if Pa then .sliceAcap else .sliceAlen) | none,none=>pure len | none,some _=>stuck "Slice: max without high" :Sem Nat).run E.P w= .ok h0 w)∧h0≤m0:=by
  cases hi with
  | none=>
    cases AW with
    | some _=>exact LQ.elim
    | none=>
      cases mx with
      | some _=>simp at Uc
      | none=>
        cases zv with
        | some _=>exact Me.elim
        | none=>simp at Uc;subst Uc;exact ⟨fun w=>rfl,by have:=hm.2.2 rfl;omega⟩
  | some v=>
    cases AW with
    | none=>exact LQ.elim
    | some v'=>
      have:=fun code=>sC (E:=E) Uc (show VR φ v v' from LQ) UW code
      cases zv with
      | none=>exact ⟨(this _).1,(this .index).2⟩
      | some _=>exact ⟨(this _).1,(this .index).2⟩
 split at e
 · simp at e
 rename_i l0 Pb
 simp at e
 obtain ⟨rfl,rfl,rfl⟩:=e
 have hl:(∀w,(match Ez with | some v=>Instr.sliceBound v h0 (if zv.isSome then .slice3C else .sliceB) | none=>pure 0:Sem Nat).run E.P w= .ok l0 w)∧l0≤h0:=by
  cases lo with
  | none=>
    cases Ez with
    | some _=>exact LP.elim
    | none=>simp at Pb;subst Pb;exact ⟨fun w=>rfl,by omega⟩
  | some v=>
    cases Ez with
    | none=>exact LP.elim
    | some v'=>
      have:=fun code=>sC (E:=E) Pb (show VR φ v v' from LP) (Nat.le_refl _) code
      exact ⟨(this _).1,(this .index).2⟩
 refine ⟨fun w=>?_,hl.2,hh.2,hm.2.1,hm.2.2⟩
 rw[xx,Sem.run_bind,hm.1 w,Result.andThen_ok,Sem.run_bind,hh.1 w,Result.andThen_ok,Sem.run_bind,hl.1 w]
 rfl
theorem rF (b o n:Nat):(⟨b,o,none⟩:Addr).add n=⟨b,o+n,none⟩:=Addr.add_mid b o n
theorem EA {φ:Ph} {t:TypeId} {x v:AV} {lo hi mx:Option AV} (e:fR E t x lo hi mx=some v) {x':Value} {Ez AW zv:Option Value}
 (hx:VR φ x x') (LP:Ey φ lo Ez) (LQ:Ey φ hi AW) (Me:Ey φ mx zv):∃v',VR φ v v'∧∀w,(Instr.sliceAt t x' Ez AW zv).run E.P w= .ok v' w:=by
 unfold fR at e
 split at e
 ·
  rename_i n elem i o hu
  cases hx with
  | @ptr _ l _ hφ=>
  split at e
  · rename_i l0 h0 m0 size hb hs
    simp at e;subst e
    obtain ⟨hr,h1,h2,h3,h4⟩:=nP (E:=E) hb LP LQ Me (Nat.le_refl n) false (Nat.le_refl n)
    have hm:(if mx.isNone then n else m0)=m0:=by
     cases mx with
     | none=>simp [h4 rfl]
     | some _=>rfl
    rw[hm] at hr
    refine ⟨_,.slice (if m0=l0 then o else o+l0*size) (h0 - l0) (m0 - l0) false hφ,fun w=>?_⟩
    simp only[Instr.sliceAt,Sem.run_bind,run_underlying hu,Result.andThen_ok,Instr.sureAddr,Sem.run_pure,hr w,ew hs,gW,Bool.false_eq_true,if_false]
    by_cases Rq:m0=l0
    · simp [Rq]
    · simp only[Rq,if_false,rF];rw[Nat.add_assoc]
  · simp at e
 ·
  rename_i s hu
  split at e
  · rename_i l0 h0 m0 hb
    simp at e;subst e
    generalize hs:s=s0 at hx hb
    cases hx with
    | str s'=>
    subst hs
    have e1:s'.size=s'.data.toList.length:=by cases s';rfl
    cases zv with
    | some _=>exact Me.elim
    | none=>
    obtain ⟨hr,h1,h2,h3,h4⟩:=nP (E:=E) (mx:=none) (zv:=none) hb LP LQ trivial (Nat.le_refl _) false (Nat.le_refl _)
    refine ⟨.string (s'.extract l0 h0),?_,fun w=>?_⟩
    · have:=VR.str (φ:=φ) (s'.extract l0 h0)
      have e2:(s'.extract l0 h0).data.toList=(s'.data.toList.drop l0).take (h0 - l0):=by
       exact Lib.extract_data s' l0 h0
      rw[e2] at this;exact this
    · have I9:=hr w
      rw[←e1] at I9
      simp only[Instr.sliceAt,Instr.slice,Sem.run_bind,run_underlying hu,Result.andThen_ok,Option.isSome_none,Bool.false_eq_true,if_false,I9,Sem.run_pure]
  · simp at e
 ·
  rename_i elem hu
  cases hx
  split at e
  · rename_i r size hb hs
    simp at e;subst e
    obtain ⟨l0,h0,m0⟩:=r
    obtain ⟨hr,h1,h2,h3,h4⟩:=nP (E:=E) hb LP LQ Me (Nat.le_refl _) true (Nat.le_refl _)
    have hm:(if mx.isNone then 0 else m0)=0:=by split<;>omega
    rw[hm] at hr
    refine ⟨_,.aI,fun w=>?_⟩
    obtain rfl:l0=0:=by omega
    obtain rfl:h0=0:=by omega
    simp only[Instr.sliceAt,Instr.slice,Sem.run_bind,run_underlying hu,Result.andThen_ok,hr w,ew hs,if_true,Sem.run_pure]
  · simp at e
 · rename_i elem i o len cap op hu
   cases hx with
   | @slice _ l _ _ _ _ hφ=>
   split at e
   · rename_i RP
     split at e
     · rename_i l0 h0 m0 size hb hs
       have Pc:cap≤gW op cap l.iF:=by unfold gW;split<;>omega
       obtain ⟨hr,h1,h2,h3,h4⟩:=nP (E:=E) hb LP LQ Me Pc true RP
       have run:∀w,(Instr.sliceAt t (.slice (some ⟨l.gG,l.off+o,none⟩) len (gW op cap l.iF)) Ez AW zv).run E.P w=
        .ok (.slice (if (if mx.isNone then gW op cap l.iF else m0)=l0 then some ⟨l.gG,l.off+o,none⟩ else some ⟨l.gG,l.off+o+l0*size,none⟩) (h0 - l0) ((if mx.isNone then gW op cap l.iF else m0) - l0)) w:=fun w=>by
        simp only[Instr.sliceAt,Instr.slice,Sem.run_bind,run_underlying hu,Result.andThen_ok,hr w,ew hs,Sem.run_pure,Option.map_some,rF]
       split at e
       · rename_i Rq
         split at e
         · rename_i ow
           have Rr:mx.isNone=true:=by simp at ow;simpa using ow.2
           simp only[Option.some.injEq] at e;subst e
           have e0:h0 - l0=0:=by omega
           rw[e0] at run
           by_cases hq:(if mx.isNone then gW op cap l.iF else m0)=l0
           · exact ⟨_,.eS _ _,fun w=>by rw[run w,if_pos hq]⟩
           · exact ⟨_,.eS _ _,fun w=>by rw[run w,if_neg hq]⟩
         · rename_i ow
           simp at e;subst e
           have W6:(if mx.isNone then gW op cap l.iF else m0)=m0:=by
            cases Rr:mx with
            | none=>subst Rr;simp at ow;subst ow;simp [gW,h4 rfl]
            | some _=>rfl
           rw[W6,if_pos Rq] at run
           exact ⟨_,.slice o (h0 - l0) (m0 - l0) false hφ,run⟩
       · rename_i Rq
         simp only[Option.some.injEq] at e;subst e
         have eC:¬(if mx.isNone then gW op cap l.iF else m0)=l0:=by
          split
          · rename_i Rr;have:=h4 (by simpa using Rr);omega
          · exact Rq
         rw[if_neg eC,Nat.add_assoc] at run
         refine ⟨_,?_,run⟩
         have:=VR.slice (φ:=φ) (o+l0*size) (h0 - l0) (m0 - l0) (op&&mx.isNone) hφ
         have e2:gW (op&&mx.isNone) (m0 - l0) l.iF=(if mx.isNone then gW op cap l.iF else m0) - l0:=by
          cases Rr:mx with
          | none=>
            have h5:=h4 Rr
            cases op with
            | true=>simp [gW];omega
            | false=>simp [gW];omega
          | some _=>simp [gW]
         rw[e2] at this;exact this
     · simp at e
   · simp at e
 · simp at e
end Go.Ab
end
section
namespace Go.Ab
variable {E:Env}
theorem oC:∀(l:List Value) (k off:Nat) (C:Array Value),(l.zipIdx k).foldl (fun cs (x:Value×Nat)=>cs.setIfInBounds (off+x.2) x.1) C=jN C (off+k) l
 | [],_,_,_=>rfl
 | v::vs,k,off,C=>by
   rw[List.zipIdx_cons,List.foldl_cons,oC vs (k+1) off,jN,Nat.add_assoc]
theorem LR.setFrom {φ:Ph}:∀{vs:List AV} {pt:List Value} (_:LR φ vs pt) {cs:List AV} {C:Array Value} (_:LR φ cs C.toList) (o:Nat),LR φ (Ab.setFrom cs o vs) (jN C o pt).toList
 | [],pt,hv,cs,C,hc,o=>by rw[hv.iX];exact hc
 | v::vs,pt,hv,cs,C,hc,o=>by
   obtain ⟨y,ys,rfl,hy,sB⟩:=hv.cW
   rw[Ab.setFrom,jN]
   refine LR.setFrom sB ?_ (o+1)
   rw[Array.toList_setIfInBounds]
   exact hc.set hy o
def PR (φ:Ph) (ps:List (Nat×AV)) (qs:List (Nat×Value)):Prop:=ps.length=qs.length∧∀(i:Nat) (x:Nat×AV) (y:Nat×Value),ps[i]? =some x→qs[i]? =some y→x.1=y.1∧VR φ x.2 y.2
theorem PR.cW {φ:Ph} {x:Nat×AV} {xs:List (Nat×AV)} {ys:List (Nat×Value)} (h:PR φ (x::xs) ys):∃y uR,ys=y::uR∧(x.1=y.1∧VR φ x.2 y.2)∧PR φ xs uR:=by
 obtain ⟨hl,hv⟩:=h
 cases ys with
 | nil=>simp at hl
 | cons y ys=>exact ⟨y,ys,rfl,hv 0 x y (by simp) (by simp),by simpa using hl,fun i a b ha hb=>hv (i+1) a b (by simpa using ha) (by simpa using hb)⟩
theorem uU {φ:Ph} (hg:GL E φ) {ts:List AV} {a:Act} (ht:LR φ ts a.tmps.toList):∀{l:List (Nat×Operand)} {r:List (Nat×AV)} (_:jJ E ts l=some r),PR φ r (l.map fun (i,x)=>(i,a.eval x))
 | [],r,h=>by simp [jJ] at h;subst h;exact ⟨rfl,fun i x y hx _=>by simp at hx⟩
 | (i,o)::rest,r,h=>by
   simp only[jJ] at h
   cases hv:ez E ts o with
   | none=>simp [hv] at h
   | some v=>
     simp only[hv] at h
     cases hr:jJ E ts rest with
     | none=>simp [hr] at h
     | some l=>
       simp only[hr,Option.some.injEq] at h;subst h
       obtain ⟨h1,h2⟩:=uU hg ht hr
       refine ⟨by simpa using h1,fun j x y hx hy=>?_⟩
       cases j with
       | zero=>simp at hx hy;subst hx;subst hy;exact ⟨rfl,ml hg ht hv⟩
       | succ j=>simp at hx;exact h2 j x y hx (by simpa using hy)
theorem rG {φ:Ph} {place:Nat→Option (Nat×Nat)}:∀{ps:List (Nat×AV)} {qs:List (Nat×Value)} (_:PR φ ps qs) {cs iD:List AV} {C:Array Value} (_:LR φ cs C.toList) (_:pZ place cs ps=some iD),
 ∃C',Instr.fill place C qs=some C'∧LR φ iD C'.toList
 | [],qs,hp,cs,iD,C,hc,h=>by
   cases qs with
   | nil=>simp [pZ] at h;subst h;exact ⟨C,rfl,hc⟩
   | cons q qs=>simp [PR] at hp
 | (i,v)::rest,qs,hp,cs,iD,C,hc,h=>by
   obtain ⟨⟨j,v'⟩,Zr,rfl,⟨he,hv⟩,mU⟩:=hp.cW
   simp only at he hv;subst he
   simp only[pZ] at h
   simp only[Instr.fill]
   cases HA:place i with
   | none=>simp [HA] at h
   | some x=>
     obtain ⟨off,size⟩:=x
     simp only[HA] at h ⊢
     split at h
     · rename_i I_
       have I':=hv.cells
       have hl:v'.cells.size=size:=by have:=I'.1;simp at this;omega
       have IL:C.size=cs.length:=by have:=hc.1;simp at this;omega
       have AS:(decide (v'.cells.size≠size)||decide (off+v'.cells.size>C.size))=false:=by
        simp only[Bool.or_eq_false_iff,decide_eq_false_iff_not];omega
       simp only[AS,Bool.false_eq_true,if_false]
       have RQ:(v'.cells.zipIdx.foldl (fun cs (x:Value×Nat)=>cs.setIfInBounds (off+x.2) x.1) C)=jN C off v'.cells.toList:=by
        rw[←Array.foldl_toList]
        have:=oC v'.cells.toList 0 off C
        simpa using this
       rw[RQ]
       exact rG mU (LR.setFrom I' hc off) h
     · simp at h
theorem EB {φ:Ph} {t:TypeId} {ps:List (Nat×AV)} {v:AV} (h:uO E t ps=some v) {qs:Array (Nat×Value)} (hp:PR φ ps qs.toList):
 ∃v',VR φ v v'∧∀w,(Instr.build t qs).run E.P w= .ok v' w:=by
 unfold uO at h
 split at h
 · simp at h
 rename_i z hz
 obtain ⟨z',wC,jW⟩:=iM hz
 split at h
 · rename_i fs hu
   split at h
   · simp at h
   rename_i pl HA
   split at h
   · rename_i cs hf
     simp at h;subst h
     have Pd:∀w,(fs.mapM fun f=>do pure (f.offset,←sizeOf f.type):Sem (Array (Nat×Nat))).run E.P w= .ok pl.toArray w:=by
      intro w
      have key:∀(l:List Field) (r:List (Nat×Nat)),ey (fun f=>match cE E f.type with | some n=>some (f.offset,n) | none=>none) l=some r→
       (l.mapM fun f=>do pure (f.offset,←sizeOf f.type):Sem (List (Nat×Nat))).run E.P w= .ok r w:=by
       intro l
       induction l with
       | nil=>intro r hr;simp [ey] at hr;subst hr;rfl
       | cons f l ih=>
         intro r hr
         simp only[ey] at hr
         cases hs:cE E f.type with
         | none=>simp [hs] at hr
         | some n=>
           simp only[hs] at hr
           cases hm:ey (fun f=>match cE E f.type with | some n=>some (f.offset,n) | none=>none) l with
           | none=>simp [hm] at hr
           | some ys=>
             simp only[hm,Option.some.injEq] at hr;subst hr
             simp only[List.mapM_cons,Sem.run_bind,ew hs,Result.andThen_ok,Sem.run_pure,ih ys hm]
      have:=key fs.toList pl HA
      have hh:(fs.mapM fun f=>do pure (f.offset,←sizeOf f.type):Sem (Array (Nat×Nat)))=(do pure (←(fs.toList.mapM fun f=>do pure (f.offset,←sizeOf f.type):Sem (List (Nat×Nat)))).toArray):=by
       rw[Array.mapM_eq_mapM_toList];rfl
      rw[hh,Sem.run_bind,this];rfl
     obtain ⟨C',vP,xy⟩:=rG (place:=(pl[·]?)) hp (cs:=z.cells) (C:=z'.cells) (wC φ).cells hf
     refine ⟨.agg C',by have:=VR.Hy xy;simpa using this,fun w=>?_⟩
     simp only[Instr.build,Sem.run_bind,jW,Result.andThen_ok,run_underlying hu,Pd w]
     simp [vP]
   · simp at h
 · rename_i n elem hu
   split at h
   · simp at h
   rename_i n hn
   split at h
   · rename_i cs hf
     simp at h;subst h
     obtain ⟨C',vP,xy⟩:=rG (place:=fun i=>some (i*n,n)) hp (cs:=z.cells) (C:=z'.cells) (wC φ).cells hf
     refine ⟨.agg C',by have:=VR.Hy xy;simpa using this,fun w=>?_⟩
     simp [Instr.build,Sem.run_bind,jW,run_underlying hu,ew hn,vP]
   · simp at h
 · simp at h
theorem Ck {φ:Ph}:∀{l:List AV} {x v:AV} (_:Er x l=some v) {x':Value} (_:VR φ x x') {l':List Value} (_:LR φ l l'),∃v',VR φ v v'∧∀w,(l'.foldlM Builtin.max2 x').run E.P w= .ok v' w
 | [],x,v,h,x',hx,l',hl=>by
   rw[hl.iX]
   cases x<;>simp [Er] at h
   subst h;exact ⟨x',hx,fun w=>rfl⟩
 | y::ys,x,v,h,x',hx,l',hl=>by
   obtain ⟨y',uR,rfl,hy,sB⟩:=hl.cW
   cases x<;>(try (simp [Er] at h;done))
   cases y<;>(try (simp [Er] at h;done))
   cases hx;cases hy
   simp only[Er] at h
   obtain ⟨v',hv,hr⟩:=Ck h (.int _ _) sB
   refine ⟨v',hv,fun w=>?_⟩
   simp only[List.foldlM_cons,Builtin.max2,Sem.run_bind,Sem.run_pure,Result.andThen_ok,hr w]
theorem Cl {φ:Ph}:∀{l:List AV} {x v:AV} (_:Es x l=some v) {x':Value} (_:VR φ x x') {l':List Value} (_:LR φ l l'),∃v',VR φ v v'∧∀w,(l'.foldlM Builtin.min2 x').run E.P w= .ok v' w
 | [],x,v,h,x',hx,l',hl=>by
   rw[hl.iX]
   cases x<;>simp [Es] at h
   subst h;exact ⟨x',hx,fun w=>rfl⟩
 | y::ys,x,v,h,x',hx,l',hl=>by
   obtain ⟨y',uR,rfl,hy,sB⟩:=hl.cW
   cases x<;>(try (simp [Es] at h;done))
   cases y<;>(try (simp [Es] at h;done))
   cases hx;cases hy
   simp only[Es] at h
   obtain ⟨v',hv,hr⟩:=Cl h (.int _ _) sB
   refine ⟨v',hv,fun w=>?_⟩
   simp only[List.foldlM_cons,Builtin.min2,Sem.run_bind,Sem.run_pure,Result.andThen_ok,hr w]
theorem map_toArray (f:Operand→Value) (l:Array Operand):l.map f=(l.toList.map f).toArray:=by apply Array.ext';simp
def N9 (E:Env):Prop:=∀f e,E.lJ f=some e→∀vs r,e vs=some r→∀φ (pt:List Value),LR φ vs pt→
 ∃r',VR φ r r'∧∀w,(callFunc f pt.toArray).run E.P w= .ok (.value r') w
theorem fi {s:Sem Value} {v:Value} {P:Program} {w w':World} (h:s.run P w= .ok v w'):(do pure (.value (←s)):Sem Next).run P w= .ok (.value v) w':=by
 rw[Sem.run_bind,h];rfl
theorem AX {φ:Ph} (hg:GL E φ) {ts:List AV} {a:Act} (ht:LR φ ts a.tmps.toList) {o:Option Operand} {r:Option AV} (h:lS E ts o=some r):Ey φ r (o.map a.eval):=by
 cases o with
 | none=>simp [lS] at h;subst h;trivial
 | some o=>
   simp only[lS] at h
   split at h
   · rename_i v hv;simp at h;subst h;exact ml hg ht hv
   · simp at h
theorem qF {P:Program} {t:TypeId} {d:TypeDesc} (hu:P.underlying t=some d) (hd:∀m,d= .interface m→False) (v:Value) (xT:TypeId) (ok:Bool) (w:World):
 (Instr.typeAssert (.iface t v) xT t ok).run P w= .ok (if ok then .tuple #[v,.bool true] else v) w:=by
 rw[Instr.typeAssert,Sem.run_bind,run_underlying hu]
 cases d<;>first | (exact (hd _ rfl).elim) | (simp;done)
theorem wD {P:Program} {t u:TypeId} {d:TypeDesc} (hu:P.underlying t=some d) (hd:∀m,d= .interface m→False) (v:Value) (xT:TypeId) (eC:u≠t) {z:Value} (w:World) (hz:(zeroValue t).run P w= .ok z w):
 (Instr.typeAssert (.iface u v) xT t true).run P w= .ok (.tuple #[z,.bool false]) w:=by
 rw[Instr.typeAssert,Sem.run_bind,run_underlying hu]
 cases d<;>first | (exact (hd _ rfl).elim) | (simp [eC,hz];done)
theorem xz {P:Program} {t:TypeId} {d:TypeDesc} (hu:P.underlying t=some d) (hd:∀m,d= .interface m→False) (xT:TypeId) {z:Value} (w:World) (hz:(zeroValue t).run P w= .ok z w):
 (Instr.typeAssert .nilIface xT t true).run P w= .ok (.tuple #[z,.bool false]) w:=by
 rw[Instr.typeAssert,Sem.run_bind,run_underlying hu]
 cases d<;>first | (exact (hd _ rfl).elim) | (simp [hz];done)
set_option maxHeartbeats 1000000 in
theorem vQ (RR:N9 E) {φ:Ph} (hg:GL E φ) {ts:List AV} {a:Act} (ht:LR φ ts a.tmps.toList) {o:Oper} {v:AV} (h:bH E ts o.op=some v):
 ∃v',VR φ v v'∧∀w,(execOp a.eval o).run E.P w= .ok (.value v') w:=by
 have ev:∀{x:Operand} {v:AV},ez E ts x=some v→VR φ v (a.eval x):=fun h=>ml hg ht h
 unfold execOp
 generalize o.op=op at h ⊢
 unfold bH at h
 split at h
 · exact ⟨_,ev h,fun w=>rfl⟩
 · exact ⟨_,ev h,fun w=>rfl⟩
 ·
  split at h
  · rename_i hc
    have:=ev hc
    generalize kr:a.eval _=cv at this
    cases this
    exact ⟨_,ev h,fun w=>by simp [kr,asBool]⟩
  · rename_i hc
    have:=ev hc
    generalize kr:a.eval _=cv at this
    cases this
    exact ⟨_,ev h,fun w=>by simp [kr,asBool]⟩
  · simp at h
 ·
  rename_i t parts
  split at h
  · rename_i ps UX
    have hp:=uU hg ht UX
    obtain ⟨v',hv,hr⟩:=EB (φ:=φ) h (qs:=parts.map fun (i,x)=>(i,a.eval x)) (by simpa using hp)
    exact ⟨v',hv,fun w=>fi (hr w)⟩
  · simp at h
 ·
  split at h<;>(try (simp at h;done))
  all_goals
   rename_i hx
   have:=ev hx
   generalize kr:a.eval _=cv at this
   cases this
   simp only[Option.some.injEq] at h;subst h
   first
    | exact ⟨_,.ptr _ ‹_›,fun w=>by simp [kr]⟩
    | exact ⟨_,.map ‹_›,fun w=>by simp [kr]⟩
    | exact ⟨_,.slice _ _ _ _ ‹_›,fun w=>by simp [kr]⟩
    | exact ⟨_,.func _ _ _ _ _ ‹_› ‹_› ‹_› ‹_›,fun w=>by simp [kr]⟩
 ·
  split at h
  · rename_i hx hy
    obtain ⟨v',hv,hr⟩:=I8 h (ev hx) (ev hy)
    exact ⟨v',hv,fun w=>fi (hr w)⟩
  · simp at h
 ·
  split at h
  · rename_i hx
    obtain ⟨v',hv,hr⟩:=Md (E:=E) h (ev hx)
    exact ⟨v',hv,fun w=>fi (hr w)⟩
  · simp at h
 ·
  split at h
  · rename_i hs hd hx
    have:=ev hx
    generalize kr:a.eval _=cv at this
    cases this
    simp at h;subst h
    refine ⟨_,.int _ _,fun w=>fi ?_⟩
    simp [kr,convert,run_underlying hs,run_underlying hd,Conv.intToInt]
  · rename_i d s hs hd hx
    have:=ev hx
    generalize kr:a.eval _=cv at this
    simp at h;subst h
    generalize EC:s=s0 at this
    cases this
    subst EC
    refine ⟨_,.str _,fun w=>fi ?_⟩
    simp [kr,convert,run_underlying hs,run_underlying hd]
  · rename_i d k n hs hd hx
    have:=ev hx
    generalize kr:a.eval _=cv at this
    cases this
    unfold F2 at h
    split at h
    · rename_i h0
      simp at h;subst h
      have he:Utf8.encode n=⟨#[UInt8.ofNat n.toNat]⟩:=by
       have hv:Utf8.valid n=true:=by simp [Utf8.valid];omega
       have h1:n.toNat<0x80:=by omega
       simp [Utf8.encode,hv,h1]
      refine ⟨.string ⟨#[UInt8.ofNat n.toNat]⟩,.str ⟨#[UInt8.ofNat n.toNat]⟩,fun w=>fi ?_⟩
      rw[←he]
      cases d<;>simp [kr,convert,run_underlying hs,run_underlying hd,Conv.intToString]
    · simp at h
  · simp at h
 ·
  split at h
  · simp at h
  · rename_i d v0 hn hu hx
    simp at h;subst h
    refine ⟨_,.iface _ _ _ (ev hx),fun w=>fi ?_⟩
    rw[Instr.makeInterface,Sem.run_bind,run_underlying hu]
    cases d<;>first | (exact (hn _ rfl).elim) | rfl
  · simp at h
 ·
  rename_i f first captured
  split at h
  · rename_i ha hb
    simp at h;subst h
    have h1:=ic hg ht ha
    have h2:=ic hg ht hb
    refine ⟨.func (.func f) (first.map a.eval) (captured.map a.eval),?_,fun w=>fi rfl⟩
    rw[map_toArray,map_toArray]
    exact VR.IY f h1 h2
  · simp at h
 ·
  split at h
  · rename_i hx hl hh hm
    obtain ⟨v',hv,hr⟩:=EA h (ev hx) (AX hg ht hl) (AX hg ht hh) (AX hg ht hm)
    exact ⟨v',hv,fun w=>fi (hr w)⟩
  · simp at h
 ·
  split at h
  · rename_i fd i o0 hf hx
    split at h
    · rename_i n hn
      split at h
      · simp at h
      · rename_i IM
        simp at h;subst h
        have:=ev hx
        generalize kr:a.eval _=cv at this
        cases this with
        | @ptr _ l _ hφ=>
        refine ⟨_,.ptr _ hφ,fun w=>fi ?_⟩
        unfold lT at hf
        split at hf
        · rename_i fs hu
          simp [kr,Instr.fieldAt,run_underlying hu,hf,Instr.sureAddr,fieldPlace,ew hn,IM,rF,Nat.add_assoc]
        · simp at hf
    · simp at h
  · simp at h
 ·
  split at h
  · rename_i fd cs hf hx
    have:=ev hx
    generalize kr:a.eval _=cv at this
    obtain ⟨iD,rfl,xy⟩:=this.jz
    obtain ⟨v',hv,hr⟩:=oB xy h
    refine ⟨v',hv,fun w=>fi ?_⟩
    unfold lT at hf
    split at hf
    · rename_i fs hu
      have:=hr w
      simp [kr,Instr.field,run_underlying hu,hf,asAgg] at this ⊢
      exact this
    · simp at hf
  · simp at h
 ·
  split at h
  · rename_i len elem i o0 k n hu hx hi
    split at h
    · rename_i size hs
      split at h
      · rename_i hb
        simp at h;subst h
        have h1:=ev hx
        have h2:=ev hi
        generalize kr:a.eval _=cv at h1
        generalize Pe:a.eval _=cw at h2
        cases h1 with
        | @ptr _ l _ hφ=>
        cases h2
        refine ⟨_,.ptr _ hφ,fun w=>fi ?_⟩
        simp [kr,Pe,Instr.indexAt,asIntOf,run_underlying hu,Instr.sureAddr,hb,ew hs,rF,Nat.add_assoc]
      · simp at h
    · simp at h
  · rename_i elem i o0 len cap op k n hu hx hi
    split at h
    · rename_i size hs
      split at h
      · rename_i hb
        simp at h;subst h
        have h1:=ev hx
        have h2:=ev hi
        generalize kr:a.eval _=cv at h1
        generalize Pe:a.eval _=cw at h2
        cases h1 with
        | @slice _ l _ _ _ _ hφ=>
        cases h2
        refine ⟨_,.ptr _ hφ,fun w=>fi ?_⟩
        simp [kr,Pe,Instr.indexAt,asIntOf,run_underlying hu,hb,ew hs,rF,Nat.add_assoc]
      · simp at h
    · simp at h
  · simp at h
 ·
  split at h
  · rename_i len elem cs k n hu hx hi
    split at h
    · rename_i size hs
      split at h
      · rename_i hb
        have h1:=ev hx
        have h2:=ev hi
        generalize kr:a.eval _=cv at h1
        generalize Pe:a.eval _=cw at h2
        obtain ⟨iD,rfl,xy⟩:=h1.jz
        cases h2
        obtain ⟨v',hv,hr⟩:=oB xy h
        refine ⟨v',hv,fun w=>fi ?_⟩
        have:=hr w
        simp [kr,Pe,Instr.index,asIntOf,run_underlying hu,hb,ew hs] at this ⊢
        exact this
      · simp at h
    · simp at h
  · rename_i s k n hu hx hi
    split at h
    · rename_i hn
      split at h
      · rename_i b hb
        simp at h;subst h
        have h1:=ev hx
        have h2:=ev hi
        generalize kr:a.eval _=cv at h1
        generalize Pe:a.eval _=cw at h2
        generalize EC:s=s0 at h1
        cases h1 with
        | str s'=>
        subst EC
        cases h2
        refine ⟨_,.int _ _,fun w=>fi ?_⟩
        have N_:s'[n.toNat]? =some b:=by
         have:s'.data[n.toNat]? =some b:=by simpa using hb
         rw[←this];rfl
        simp [kr,Pe,Instr.index,asIntOf,run_underlying hu,hn,N_]
      · simp at h
    · simp at h
  · simp at h
 ·
  split at h
  · rename_i vs hx
    have h1:=ev hx
    generalize kr:a.eval _=cv at h1
    obtain ⟨pt,rfl,xy⟩:=h1.zV
    obtain ⟨y,hy,hv⟩:=xy.get h
    refine ⟨y,hv,fun w=>fi ?_⟩
    simp at hy
    simp [kr,Instr.extract,hy]
  · simp at h
 ·
  split at h
  · simp at h
  · rename_i d t v0 hn hu hx
    have h1:=ev hx
    generalize kr:a.eval _=cv at h1
    cases h1 with
    | iface _ _ v1 Ud=>
    split at h
    · rename_i UY
      subst UY
      simp at h;subst h
      split
      · rename_i mV
        refine ⟨.tuple #[v1,.bool true],VR.tuple' (iD:=[v1,.bool true]) (.cons Ud (.cons (.bool true) (.nil φ))),fun w=>fi ?_⟩
        rw[kr,qF hu hn,mV];rfl
      · rename_i mV
        refine ⟨v1,Ud,fun w=>fi ?_⟩
        rw[kr,qF hu hn];simp [mV]
    · rename_i UY
      split at h
      · rename_i mV
        split at h
        · rename_i z hz
          simp at h;subst h
          obtain ⟨z',wC,jW⟩:=iM hz
          refine ⟨.tuple #[z',.bool false],VR.tuple' (iD:=[z',.bool false]) (.cons (wC φ) (.cons (.bool false) (.nil φ))),fun w=>fi ?_⟩
          rw[kr,mV];exact wD hu hn _ _ UY w (jW w)
        · simp at h
      · simp at h
  · rename_i d hn hu hx
    have h1:=ev hx
    generalize kr:a.eval _=cv at h1
    cases h1
    split at h
    · rename_i mV
      split at h
      · rename_i z hz
        simp at h;subst h
        obtain ⟨z',wC,jW⟩:=iM hz
        refine ⟨.tuple #[z',.bool false],VR.tuple' (iD:=[z',.bool false]) (.cons (wC φ) (.cons (.bool false) (.nil φ))),fun w=>fi ?_⟩
        rw[kr,mV];exact xz hu hn _ w (jW w)
      · simp at h
    · simp at h
  · simp at h
 ·
  split at h
  · rename_i t v0 IN ED
    have hl:=ic hg ht ED
    obtain ⟨y,ys,sB,hy,AY⟩:=hl.cW
    rw[AY.iX] at sB
    have xA:∀(args:Array Operand),args.toList.map a.eval=[y]→args.map a.eval= #[y]:=fun args e=>by rw[map_toArray,e]
    have h0:=xA _ sB
    split at h<;>(try (simp at h;done))
    all_goals
     rename_i hu
     simp only[Option.some.injEq] at h;subst h
    · generalize EC:AV.str _=s0 at hy
      cases hy<;>cases EC
      rename_i s'
      refine ⟨_,.int _ _,fun w=>?_⟩
      simp [resolve,invoke,builtin,h0,Builtin.len_,IN,run_underlying hu,goInt]
      try rfl
    · refine ⟨_,.int _ _,fun w=>?_⟩
      simp [resolve,invoke,builtin,h0,Builtin.len_,IN,run_underlying hu,goInt]
    · cases hy
      refine ⟨_,.int _ _,fun w=>?_⟩
      simp [resolve,invoke,builtin,h0,Builtin.len_,IN,run_underlying hu,goInt]
    · cases hy
      refine ⟨_,.int _ _,fun w=>?_⟩
      simp [resolve,invoke,builtin,h0,Builtin.len_,IN,run_underlying hu,goInt]
    · cases hy
      refine ⟨_,.int _ _,fun w=>?_⟩
      simp [resolve,invoke,builtin,h0,Builtin.len_,IN,run_underlying hu,goInt]
    · cases hy
      refine ⟨_,.int _ _,fun w=>?_⟩
      simp [resolve,invoke,builtin,h0,Builtin.len_,IN,run_underlying hu,goInt]
  · simp at h
 ·
  split at h
  · rename_i t v0 IN ED
    have hl:=ic hg ht ED
    obtain ⟨y,ys,sB,hy,AY⟩:=hl.cW
    rw[AY.iX] at sB
    have xA:∀(args:Array Operand),args.toList.map a.eval=[y]→args.map a.eval= #[y]:=fun args e=>by rw[map_toArray,e]
    have h0:=xA _ sB
    split at h<;>(try (simp at h;done))
    all_goals
     rename_i hu
     simp only[Option.some.injEq] at h;subst h
    · refine ⟨_,.int _ _,fun w=>?_⟩
      simp [resolve,invoke,builtin,h0,Builtin.cap_,IN,run_underlying hu,goInt]
    · cases hy
      refine ⟨_,.int _ _,fun w=>?_⟩
      simp [resolve,invoke,builtin,h0,Builtin.cap_,IN,run_underlying hu,goInt]
    · cases hy
      refine ⟨_,.int _ _,fun w=>?_⟩
      simp [resolve,invoke,builtin,h0,Builtin.cap_,IN,run_underlying hu,goInt,gW]
  · simp at h
 ·
  rename_i args _
  split at h
  · rename_i x rest ED
    have hl:=ic hg ht ED
    obtain ⟨y,ys,sB,hy,mU⟩:=hl.cW
    obtain ⟨v',hv,hr⟩:=Ck (E:=E) h hy mU
    refine ⟨v',hv,fun w=>?_⟩
    have h0:args.map a.eval=(y::ys).toArray:=by rw[map_toArray,sB]
    have:=hr w
    simp [resolve,invoke,builtin,h0,Builtin.max_,this]
  · simp at h
 ·
  rename_i args _
  split at h
  · rename_i x rest ED
    have hl:=ic hg ht ED
    obtain ⟨y,ys,sB,hy,mU⟩:=hl.cW
    obtain ⟨v',hv,hr⟩:=Cl (E:=E) h hy mU
    refine ⟨v',hv,fun w=>?_⟩
    have h0:args.map a.eval=(y::ys).toArray:=by rw[map_toArray,sB]
    have:=hr w
    simp [resolve,invoke,builtin,h0,Builtin.min_,this]
  · simp at h
 ·
  rename_i f args _
  split at h
  · rename_i e vs he ED
    have hl:=ic hg ht ED
    obtain ⟨r',hr,hH⟩:=RR f e he vs v h φ _ hl
    refine ⟨r',hr,fun w=>?_⟩
    have:=hH w
    rw[←map_toArray] at this
    simpa [resolve,Deferred.ofValue,invoke,Act.eval] using this
  · simp at h
 · simp at h
end Go.Ab
end
section
namespace Go.Ab
variable {E:Env}
theorem AZ {P:Program} {t:TypeId} {k:IntKind} (hu:P.underlying t=some (.int k)) (b:Bool) (n:Nat) (v:Value) (w:World):
 (Instr.checkKey b (n+1) t v).run P w= .ok () w:=by
 unfold Instr.checkKey
 rw[Sem.run_bind,run_underlying hu]
 rfl
theorem qG {φ:Ph} {t:TypeId} {d:TypeDesc} {k:AV} (hu:E.P.underlying t=some d) (hk:lK E (some d) k=true) {k':Value} (h:VR φ k k') (b:Bool) (n:Nat) (w:World):
 (Instr.checkKey b (n+2) t k').run E.P w= .ok () w:=by
 unfold lK at hk
 split at hk
 · rename_i fs xs hd
   cases hd
   obtain ⟨xk,rfl,Cj⟩:=h.jz
   unfold Instr.checkKey
   rw[Sem.run_bind,run_underlying hu]
   simp only[Result.andThen_ok]
   have key:∀l:List Field,(l.all fun f=>match E.P.underlying f.type,je E f.type xs f.offset with
    | some (.int _),some (.int _ _)=>true
    | _,_=>false)=true→
    (forIn (m:=Sem) l PUnit.unit fun f (_:PUnit)=>if f.name≠ "_" then (do let x←part f.type xk f.offset;Instr.checkKey b (n+1) f.type x;pure (ForInStep.yield PUnit.unit)) else pure (ForInStep.yield PUnit.unit)).run E.P w= .ok PUnit.unit w:=by
    intro l
    induction l with
    | nil=>intro _;rfl
    | cons f l ih=>
      intro ha
      rw[List.all_cons,Bool.and_eq_true] at ha
      obtain ⟨hf,hl⟩:=ha
      have h2:=ih hl
      split at hf
      · rename_i ki kj z e1 e2
        obtain ⟨v',_,hr⟩:=oB Cj e2
        rw[Array.toArray_toList] at hr
        simp only[List.forIn_cons,Sem.run_bind]
        split
        · simp only[Sem.run_bind,hr,Result.andThen_ok,AZ e1,Sem.run_pure,h2]
        · simp only[Sem.run_pure,Result.andThen_ok,h2]
      · cases hf
   have:=key fs.toList hk
   rw[Array.forIn_toList] at this
   first | exact this | (simp only[Sem.run_bind,this];rfl)
 · cases hk
theorem zZ {φ:Ph}:∀{xs ys:List AV} {xk uR:List Value},qv xs ys=true→LR φ xs xk→LR φ ys uR→uR=xk∧(uR.zip xk).all (fun (x,y)=>Instr.sameBits 9999 x y)=true
 | [],[],xk,uR,_,h,h'=>by rw[h.iX,h'.iX];exact ⟨rfl,rfl⟩
 | .int k a::xs,.int j b::ys,xk,uR,e,h,h'=>by
   obtain ⟨x,Zs,rfl,hx,Cj⟩:=h.cW
   obtain ⟨y,W8,rfl,hy,sB⟩:=h'.cW
   simp only[qv,Bool.and_eq_true,decide_eq_true_eq] at e
   obtain ⟨⟨rfl,rfl⟩,e⟩:=e
   cases hx;cases hy
   obtain ⟨h1,h2⟩:=zZ e Cj sB
   subst h1
   refine ⟨rfl,?_⟩
   rw[List.zip_cons_cons,List.all_cons,h2,Bool.and_true]
   simp [Instr.sameBits]
theorem A0 {φ:Ph} {xs ys:List AV} (e:qv xs ys=true) {k' j':Value} (h:VR φ (.agg xs) k') (h':VR φ (.agg ys) j'):Instr.sameBits 10000 j' k'=true∧j'=k':=by
 obtain ⟨a,rfl,ha⟩:=h.jz
 obtain ⟨b,rfl,hb⟩:=h'.jz
 obtain ⟨h1,h2⟩:=zZ e ha hb
 have X9:b=a:=by cases b;cases a;simp at h1;subst h1;rfl
 subst X9
 refine ⟨?_,rfl⟩
 rw[Instr.sameBits]
 simp only[beq_self_eq_true,Bool.true_and]
 exact h2
def Mf (φ:Ph) (k j:AV):Prop:=∀{k' j':Value},VR φ k k'→VR φ j j'→Instr.sameBits 10000 j' k'=true∧j'=k'
theorem oD {φ:Ph} {key:TypeId} {k:AV} {k':Value} (h:VR φ k k'):∀{es:List kh} {ka:List MapEntry} (_:IZ φ es ka) {i:Nat} {r:Option (Nat×AV)} (_:findD E key k es i=some r),
 ∃r',(∀w,(Instr.findAsking key k' ka i).run E.P w= .ok r' w)∧(match r,r' with | none,none=>True | some (j,v),some (j',v')=>j=j'∧VR φ v v'∧i≤j∧∃e,es[j - i]? =some e∧Mf φ k e.key | _,_=>False)
 | [],ka,he,i,r,e=>by
   cases ka with
   | nil=>simp [findD] at e;subst e;exact ⟨none,fun w=>rfl,trivial⟩
   | cons _ _=>simp [IZ] at he
 | x::es,ka,he,i,r,e=>by
   obtain ⟨hl,hv⟩:=he
   cases ka with
   | nil=>simp at hl
   | cons y ys=>
     have hx:=hv 0 x y (by simp) (by simp)
     simp only[findD] at e
     split at e
     · rename_i heq
       split at e
       · rename_i zs hz _
         split at e
         · rename_i hs
           simp at e;subst e
           refine ⟨some (i,y.val),fun w=>?_,rfl,hx.val,Nat.le_refl _,x,by simp,?_⟩
           · have q:=mT 16 9984 key _ _ true _ _ heq h hx.key w
             simp only[Instr.findAsking,Sem.run_bind,Op.equal]
             rw[show Op.maxDepth=9984+16 from rfl,q]
             rfl
           · intro a b ha hb
             rw[hz] at hb
             exact A0 hs ha hb
         · cases e
       · cases e
     · rename_i heq
       obtain ⟨r',h1,h2⟩:=oD h (es:=es) (ka:=ys) ⟨by simpa using hl,fun i a b p q=>hv (i+1) a b (by simpa using p) (by simpa using q)⟩ e
       refine ⟨r',fun w=>?_,?_⟩
       · have q:=mT 16 9984 key _ _ false _ _ heq h hx.key w
         simp only[Instr.findAsking,Sem.run_bind,Op.equal]
         rw[show Op.maxDepth=9984+16 from rfl,q]
         exact h1 w
       · cases r with
         | none=>cases r' with
           | none=>trivial
           | some _=>exact h2
         | some p=>
           obtain ⟨j,v⟩:=p
           cases r' with
           | none=>exact h2
           | some q=>
             obtain ⟨j',v'⟩:=q
             obtain ⟨h3,h4,h5,e',h6,h7⟩:=h2
             refine ⟨h3,h4,by omega,e',?_,h7⟩
             rw[show j - i=(j -(i+1))+1 by omega];simpa using h6
     · cases e
theorem mF {φ:Ph} {key:TypeId} {d:TypeDesc} {k:AV} (hd:E.P.underlying key=some d) (hk:lK E (some d) k=true) {k':Value} (h:VR φ k k') {ka:List MapEntry} {r':Option (Nat×Value)} {w:World} (hr:(Instr.findAsking key k' ka 0).run E.P w= .ok r' w):
 (Instr.findKey key k' ka).run E.P w= .ok r' w:=by
 unfold lK at hk
 split at hk
 · rename_i fs xs X_
   cases X_
   obtain ⟨xk,rfl,Cj⟩:=h.jz
   rw[Instr.findKey,Sem.run_bind,run_underlying hd]
   simp only[Result.andThen_ok]
   cases ka with
   | nil=>exact hr
   | cons y ys=>
     have:Instr.findNow (.struct fs) (.agg xk) (y::ys) 0=none:=rfl
     rw[this]
     exact hr
 · cases hk
end Go.Ab
end
section
namespace Go.Ab
variable {E:Env}
theorem OK.cells {φ:Ph} {h:ar} {w:World} (ok:OK E φ h w) {i:Nat} {cs:List AV} {e:TypeId} {ro:Bool} (hg:h.get i=some (.cells cs e ro)) {l:Loc} (hl:φ i=some l):
 ∃C e' lo hi,w.heap[l.gG]? =some (.cells C e' (lo,hi))∧CR E φ cs e ro l C lo hi:=by
 exact ok.live i _ l hg hl
theorem z4 {φ:Ph} {h:ar} {w:World} (ok:OK E φ h w) {t:TypeId} {av v:AV} {v':Value} (hv:VR φ av v') (e:bN E h t av=some v):
 ∃x',VR φ v x'∧∀w',w'.heap=w.heap→(Instr.loadAt t v').run E.P w'= .ok x' w':=by
 unfold bN at e
 split at e
 · rename_i i o
   cases hv with
   | @ptr _ l _ hφ=>
   split at e
   · rename_i cs el ro hg
     obtain ⟨C,e',lo,hi,hb,hc⟩:=ok.cells hg hφ
     unfold je at e
     split at e
     · rename_i ha
       split at e
       · rename_i n hn
         split at e
         · rename_i hle
           simp at e;subst e
           obtain ⟨vs,RU,Ej,xy⟩:=hc.range o n hle
           refine ⟨.agg vs.toArray,VR.Hy xy,fun w' RV=>?_⟩
           rw[←RV] at hb
           have sD:=mE (P:=E.P) hb (l.off+o) vs Ej
           rw[RU] at sD
           simp only[Instr.loadAt,Instr.sureAddr,Sem.run_bind,Sem.run_pure,Result.andThen_ok,loadVar,pq ha,if_true,ew hn,sD]
         · simp at e
       · simp at e
     · rename_i ha
       obtain ⟨y,hy,hr⟩:=hc.val o v e
       refine ⟨y,hr,fun w' RV=>?_⟩
       rw[←RV] at hb
       simp only[Instr.loadAt,Instr.sureAddr,Sem.run_bind,Sem.run_pure,Result.andThen_ok,loadVar,pq ha,Bool.false_eq_true,if_false,run_load,pn hb,hy]
     · simp at e
   · simp at e
 · simp at e
theorem Cm {P:Program} (l:List Int):∀(vs:List Value) (acc:ByteArray) (w:World),vs=l.map (fun n=>Value.int .u8 n)→
 (forIn vs acc (fun c s=>(match c with | .int .u8 n=>do pure (ForInStep.yield (s.push (UInt8.ofNat n.toNat))) | _=>do stuck "bytesToString: byte expected";pure (ForInStep.yield s):Sem (ForInStep ByteArray)))).run P w= .ok ⟨(acc.data.toList++l.map (fun n=>UInt8.ofNat n.toNat)).toArray⟩ w:=by
 induction l with
 | nil=>intro vs acc w h;simp at h;subst h;simp [List.forIn_nil]
 | cons b l ih=>
   intro vs acc w h
   cases vs with
   | nil=>simp at h
   | cons v vs=>
     simp at h
     obtain ⟨rfl,ED⟩:=h
     simp only[List.forIn_cons,Sem.run_bind,Sem.run_pure,Result.andThen_ok]
     rw[ih vs _ w ED]
     simp [ByteArray.push]
theorem z5 {φ:Ph} {d:TypeDesc} {k j:AV} {r:Bool} (hk:ir (some d) k=true) (e:zS k j=some r) {k' j':Value} (h:VR φ k k') (h':VR φ j j'):Instr.sameNow d k' j'=some r:=by
 unfold zS at e
 split at e
 · generalize hs:AV.str _=s at h
   generalize pr:AV.str _=s' at h'
   cases h<;>cases hs
   cases h'<;>cases pr
   simp at e;subst e
   cases d<;>simp [ir] at hk
   rename_i s s'
   simp only[Instr.sameNow]
   congr 1
 · cases h;cases h'
   split at e
   · rename_i xB
     simp at e;subst e;subst xB
     cases d<;>simp [ir] at hk
     simp [Instr.sameNow]
   · simp at e
 · cases h;cases h'
   simp at e;subst e
   cases d<;>simp [ir] at hk
   simp [Instr.sameNow]
 · simp at e
theorem oE {φ:Ph} {d:TypeDesc} {k:AV} {k':Value} (hk:ir (some d) k=true) (h:VR φ k k'):∀{es:List kh} {ka:List MapEntry} (_:IZ φ es ka) {i:Nat} {r:Option (Nat×AV)} (_:qw k es i=some r),
 ∃r',Instr.findNow d k' ka i=some r'∧(match r,r' with | none,none=>True | some (j,v),some (j',v')=>j=j'∧VR φ v v'∧i≤j∧∃e,es[j - i]? =some e∧zS k e.key=some true | _,_=>False)
 | [],ka,he,i,r,e=>by
   cases ka with
   | nil=>simp [qw] at e;subst e;exact ⟨none,rfl,trivial⟩
   | cons _ _=>simp [IZ] at he
 | x::es,ka,he,i,r,e=>by
   obtain ⟨hl,hv⟩:=he
   cases ka with
   | nil=>simp at hl
   | cons y ys=>
     have hx:=hv 0 x y (by simp) (by simp)
     simp only[qw] at e
     split at e
     · rename_i heq
       simp at e;subst e
       refine ⟨some (i,y.val),?_,rfl,hx.val,Nat.le_refl _,x,by simp,heq⟩
       simp [Instr.findNow,z5 hk heq h hx.key]
     · rename_i heq
       obtain ⟨r',h1,h2⟩:=oE hk h (es:=es) (ka:=ys) ⟨by simpa using hl,fun i a b p q=>hv (i+1) a b (by simpa using p) (by simpa using q)⟩ e
       refine ⟨r',?_,?_⟩
       · simp [Instr.findNow,z5 hk heq h hx.key,h1]
       · cases r with
         | none=>cases r' with
           | none=>trivial
           | some _=>exact h2
         | some p=>
           obtain ⟨j,v⟩:=p
           cases r' with
           | none=>exact h2
           | some q=>
             obtain ⟨j',v'⟩:=q
             obtain ⟨h3,h4,h5,e',h6,h7⟩:=h2
             refine ⟨h3,h4,by omega,e',?_,h7⟩
             rw[show j - i=(j -(i+1))+1 by omega];simpa using h6
     · simp at e
theorem pv {P:Program} {t:TypeId} {d:TypeDesc} (hu:P.underlying t=some d) {k:AV} (hk:ir (some d) k=true) {φ:Ph} {k':Value} (h:VR φ k k') (b:Bool) (n:Nat) (w:World):
 (Instr.checkKey b (n+1) t k').run P w= .ok () w:=by
 unfold Instr.checkKey
 rw[Sem.run_bind,run_underlying hu]
 cases d<;>simp [ir] at hk<;>cases h<;>first | rfl | (simp [ir] at hk)
theorem tw {P:Program} {w:World} {a:Addr} {n:Nat} (l:List Int) (hl:(loadCells a n).run P w= .ok ((l.map (fun n=>Value.int .u8 n)).toArray) w) (c:Nat):
 (Conv.bytesToString (.slice (some a) n c)).run P w= .ok (.string ⟨(l.map (fun n=>UInt8.ofNat n.toNat)).toArray⟩) w:=by
 unfold Conv.bytesToString
 simp only[Sem.run_bind,hl,Result.andThen_ok]
 have:=Cm (P:=P) l (l.map (fun n=>Value.int .u8 n)) ByteArray.empty w rfl
 have e:forIn (m:=Sem) (l.map (fun n=>Value.int .u8 n)).toArray ByteArray.empty (fun c s=>(match c with | .int .u8 n=>do pure (ForInStep.yield (s.push (UInt8.ofNat n.toNat))) | _=>do stuck "bytesToString: byte expected";pure (ForInStep.yield s):Sem (ForInStep ByteArray)))
  =forIn (m:=Sem) (l.map (fun n=>Value.int .u8 n)) ByteArray.empty (fun c s=>(match c with | .int .u8 n=>do pure (ForInStep.yield (s.push (UInt8.ofNat n.toNat))) | _=>do stuck "bytesToString: byte expected";pure (ForInStep.yield s):Sem (ForInStep ByteArray))):=by
  rw[←Array.forIn_toList]
 rw[←e] at this
 refine (congrArg (fun r=>Result.andThen r fun a w'=>Sem.run P (pure (Value.string a)) w') this).trans ?_
 simp
theorem vR {φ:Ph}:∀{cs:List AV} {vs:List Value} (_:LR φ cs vs) {l:List UInt8} (_:ey (fun | .int .u8 b=>some (UInt8.ofNat b.toNat) | _=>none) cs=some l),
 ∃ns:List Int,vs=ns.map (fun n=>Value.int .u8 n)∧l=ns.map (fun n=>UInt8.ofNat n.toNat)
 | [],vs,hv,l,h=>by rw[hv.iX];simp [ey] at h;subst h;exact ⟨[],rfl,rfl⟩
 | c::cs,vs,hv,l,h=>by
   obtain ⟨y,ys,rfl,hy,sB⟩:=hv.cW
   simp only[ey] at h
   split at h
   · simp at h
   · rename_i b hb
     split at h
     · simp at h
     · rename_i bs X'
       simp at h;subst h
       obtain ⟨ns,rfl,rfl⟩:=vR sB X'
       split at hb
       · cases hy
         simp at hb;subst hb
         exact ⟨_::ns,rfl,rfl⟩
       · simp at hb
structure Entries (P:Program) (x:Value) (es:Array MapEntry) (w:World):Prop where
 is:(x= .map none∧es= #[])∨∃r clock,x= .map (some r)∧w.heap[r]? =some (.map es clock)
theorem xC {P:Program} {t key elem:TypeId} (hu:P.underlying t=some (.map key elem)) {x k:Value} {es:Array MapEntry} {w:World} (uV:Entries P x es w)
 {d:TypeDesc} (hd:P.underlying key=some d) (Ek:∀b n,(Instr.checkKey b (n+1) key k).run P w= .ok () w) {r:Option (Nat×Value)} (hf:Instr.findNow d k es.toList 0=some r) {z:Value} (hz:r=none→(zeroValue elem).run P w= .ok z w) (ok:Bool):
 (Instr.lookup t x k ok).run P w= .ok (match r with | some (_,v)=>if ok then .tuple #[v,.bool true] else v | none=>if ok then .tuple #[z,.bool false] else z) w:=by
 have HB:=fun b=>Ek b 9999
 rw[Instr.lookup]
 simp only[Sem.run_bind,run_underlying hu,Result.andThen_ok]
 rcases uV.is with ⟨rfl,rfl⟩ | ⟨b,clock,rfl,hb⟩
 · simp only[Sem.run_bind,Sem.run_pure,Result.andThen_ok,HB,Instr.findKey,run_underlying hd,hf]
   cases r with
   | none=>simp [hz rfl]
   | some q=>simp
 · have zw:(getObj b).run P w= .ok (.map es clock) w:=by simp [getObj,Sem.run,hb]
   simp only[Sem.run_bind,Sem.run_pure,Result.andThen_ok,zw,HB,Instr.findKey,run_underlying hd,hf]
   cases r with
   | none=>simp [hz rfl]
   | some q=>simp
theorem vS {P:Program} {t key elem:TypeId} (hu:P.underlying t=some (.map key elem)) {x k:Value} {es:Array MapEntry} {w:World} (uV:Entries P x es w)
 (Ek:∀b,(Instr.checkKey b 10000 key k).run P w= .ok () w) {r:Option (Nat×Value)} (hf:(Instr.findKey key k es.toList).run P w= .ok r w) {z:Value} (hz:r=none→(zeroValue elem).run P w= .ok z w) (ok:Bool):
 (Instr.lookup t x k ok).run P w= .ok (match r with | some (_,v)=>if ok then .tuple #[v,.bool true] else v | none=>if ok then .tuple #[z,.bool false] else z) w:=by
 rw[Instr.lookup]
 simp only[Sem.run_bind,run_underlying hu,Result.andThen_ok]
 rcases uV.is with ⟨rfl,rfl⟩ | ⟨b,clock,rfl,hb⟩
 · simp only[Sem.run_bind,Sem.run_pure,Result.andThen_ok,Ek,hf]
   cases r with
   | none=>simp [hz rfl]
   | some q=>simp
 · have zw:(getObj b).run P w= .ok (.map es clock) w:=by simp [getObj,Sem.run,hb]
   simp only[Sem.run_bind,Sem.run_pure,Result.andThen_ok,zw,Ek,hf]
   cases r with
   | none=>simp [hz rfl]
   | some q=>simp
theorem vT {φ:Ph} (hg:GL E φ) {h:ar} {w:World} (ok:OK E φ h w) {ts:List AV} {a:Act} (ht:LR φ ts a.tmps.toList) {o:Oper} {v:AV} (e:ef E ts h o.op=some v):
 ∃v',VR φ v v'∧∀w',w'.heap=w.heap→(execOp a.eval o).run E.P w'= .ok (.value v') w':=by
 have ev:∀{x:Operand} {v:AV},ez E ts x=some v→VR φ v (a.eval x):=fun h=>ml hg ht h
 unfold execOp
 generalize o.op=op at e ⊢
 unfold ef at e
 split at e
 ·
  split at e
  · rename_i hx
    obtain ⟨x',RW,hr⟩:=z4 ok (ev hx) e
    exact ⟨x',RW,fun w' hw=>fi (hr w' hw)⟩
  · simp at e
 ·
  split at e
  · rename_i el v0 hs hd hx
    split at e
    · rename_i he
      simp at e;subst e
      have h1:=ev hx
      generalize kr:a.eval _=cv at h1
      cases h1
      refine ⟨.string .empty,VR.str .empty,fun w' _=>fi ?_⟩
      simp [kr,convert,run_underlying hs,run_underlying hd,run_underlying he,Conv.bytesToString]
    · rename_i i o len _ _ he
      split at e
      · rename_i l hb
        simp at e;subst e
        have h1:=ev hx
        generalize kr:a.eval _=cv at h1
        cases h1 with
        | @slice _ lc _ _ _ _ hφ=>
        unfold AO at hb
        split at hb
        · rename_i cs Zt ro Ya
          split at hb
          · rename_i hle
            obtain ⟨C,e',lo,hi,W9,hc⟩:=ok.cells Ya hφ
            obtain ⟨vs,RU,Ej,xy⟩:=hc.range o len hle
            obtain ⟨ns,rfl,rfl⟩:=vR xy hb
            refine ⟨.string ⟨(ns.map (fun n=>UInt8.ofNat n.toNat)).toArray⟩,?_,fun w' RV=>fi ?_⟩
            · have:=VR.str (φ:=φ) ⟨(ns.map (fun n=>UInt8.ofNat n.toNat)).toArray⟩
              simpa using this
            · rw[←RV] at W9
              have sD:=mE (P:=E.P) W9 (lc.off+o) _ Ej
              rw[RU] at sD
              have:=tw ns sD (gW ‹_› ‹_› lc.iF)
              rw[kr]
              simp only[convert,Sem.run_bind,run_underlying hs,run_underlying hd,Result.andThen_ok,run_underlying he]
              exact this
          · simp at hb
        · simp at hb
      · simp at e
    · simp at e
  · simp at e
 ·
  rename_i t x ix gV
  split at e
  · rename_i key elem m k hu hm hk
    split at e
    · rename_i xB
      have EF:∃d,E.P.underlying key=some d∧ir (some d) k=true:=by
       cases hd:E.P.underlying key with
       | none=>rw[hd] at xB;simp [ir] at xB
       | some d=>rw[hd] at xB;exact ⟨d,rfl,xB⟩
      obtain ⟨d,hd,xD⟩:=EF
      have Mg:=ev hm
      have Ja:=ev hk
      split at e
      · simp at e
      · rename_i es uV
        have uW:∃ka:Array MapEntry,IZ φ es ka.toList∧∀w',w'.heap=w.heap→Entries E.P (a.eval x) ka w':=by
         split at uV
         · simp at uV;subst uV
           generalize kr:a.eval x=cv at Mg
           cases Mg
           exact ⟨#[],⟨rfl,fun i x y p _=>by simp at p⟩,fun w' _=>⟨.inl ⟨rfl,rfl⟩⟩⟩
         · rename_i i
           split at uV
           · rename_i Yb clock RX
             simp at uV;subst uV
             generalize kr:a.eval x=cv at Mg
             cases Mg with
             | @map _ l hφ=>
             have zl:=ok.live i _ l RX hφ
             obtain ⟨Jb,ka,hb,km⟩:=zl
             exact ⟨ka,km,fun w' hw=>⟨.inr ⟨l.gG,clock,rfl,by rw[hw];exact hb⟩⟩⟩
           · simp at uV
         · simp at uV
        obtain ⟨ka,km,hH⟩:=uW
        split at e
        · simp at e
        · rename_i j v0 hf
          obtain ⟨r',h1,h2⟩:=oE xD Ja km hf
          cases r' with
          | none=>exact h2.elim
          | some q=>
          obtain ⟨j',v'⟩:=q
          obtain ⟨_,Ej,_⟩:=h2
          simp at e;subst e
          refine ⟨if gV then .tuple #[v',.bool true] else v',?_,fun w' hw=>fi ?_⟩
          · split
            · exact VR.tuple' (iD:=[v',.bool true]) (.cons Ej (.cons (.bool true) (.nil φ)))
            · exact Ej
          · exact xC hu (hH w' hw) hd (fun b n=>pv hd xD Ja b n w') h1 (z:=undef) (fun e=>by simp at e) gV
        · rename_i hf
          obtain ⟨r',h1,h2⟩:=oE xD Ja km hf
          cases r' with
          | some q=>exact h2.elim
          | none=>
          split at e
          · rename_i z hz
            simp at e;subst e
            obtain ⟨z',wC,jW⟩:=iM hz
            refine ⟨if gV then .tuple #[z',.bool false] else z',?_,fun w' hw=>fi ?_⟩
            · split
              · exact VR.tuple' (iD:=[z',.bool false]) (.cons (wC φ) (.cons (.bool false) (.nil φ)))
              · exact wC φ
            · exact xC hu (hH w' hw) hd (fun b n=>pv hd xD Ja b n w') h1 (fun _=>jW w') gV
          · simp at e
    · split at e
      · rename_i xB
        have EF:∃d,E.P.underlying key=some d∧lK E (some d) k=true:=by
         cases hd:E.P.underlying key with
         | none=>rw[hd] at xB;simp [lK] at xB
         | some d=>rw[hd] at xB;exact ⟨d,rfl,xB⟩
        obtain ⟨d,hd,xD⟩:=EF
        have Mg:=ev hm
        have Ja:=ev hk
        split at e
        · simp at e
        · rename_i es uV
          have uW:∃ka:Array MapEntry,IZ φ es ka.toList∧∀w',w'.heap=w.heap→Entries E.P (a.eval x) ka w':=by
           split at uV
           · simp at uV;subst uV
             generalize kr:a.eval x=cv at Mg
             cases Mg
             exact ⟨#[],⟨rfl,fun i x y p _=>by simp at p⟩,fun w' _=>⟨.inl ⟨rfl,rfl⟩⟩⟩
           · rename_i i
             split at uV
             · rename_i Yb clock RX
               simp at uV;subst uV
               generalize kr:a.eval x=cv at Mg
               cases Mg with
               | @map _ l hφ=>
               have zl:=ok.live i _ l RX hφ
               obtain ⟨Jb,ka,hb,km⟩:=zl
               exact ⟨ka,km,fun w' hw=>⟨.inr ⟨l.gG,clock,rfl,by rw[hw];exact hb⟩⟩⟩
             · simp at uV
           · simp at uV
          obtain ⟨ka,km,hH⟩:=uW
          split at e
          · simp at e
          · rename_i j v0 hf
            obtain ⟨r',h1,h2⟩:=oD Ja km hf
            cases r' with
            | none=>exact h2.elim
            | some q=>
            obtain ⟨j',v'⟩:=q
            obtain ⟨_,Ej,_⟩:=h2
            simp at e;subst e
            refine ⟨if gV then .tuple #[v',.bool true] else v',?_,fun w' hw=>fi ?_⟩
            · split
              · exact VR.tuple' (iD:=[v',.bool true]) (.cons Ej (.cons (.bool true) (.nil φ)))
              · exact Ej
            · exact vS hu (hH w' hw) (fun b=>qG hd xD Ja b 9998 w') (mF hd xD Ja (h1 w')) (z:=undef) (fun e=>by simp at e) gV
          · rename_i hf
            obtain ⟨r',h1,h2⟩:=oD Ja km hf
            cases r' with
            | some q=>exact h2.elim
            | none=>
            split at e
            · rename_i z hz
              simp at e;subst e
              obtain ⟨z',wC,jW⟩:=iM hz
              refine ⟨if gV then .tuple #[z',.bool false] else z',?_,fun w' hw=>fi ?_⟩
              · split
                · exact VR.tuple' (iD:=[z',.bool false]) (.cons (wC φ) (.cons (.bool false) (.nil φ)))
                · exact wC φ
              · exact vS hu (hH w' hw) (fun b=>qG hd xD Ja b 9998 w') (mF hd xD Ja (h1 w')) (fun _=>jW w') gV
            · simp at e
      · simp at e
  · simp at e
 ·
  split at e
  · rename_i t i IN ED
    have hl:=ic hg ht ED
    obtain ⟨y,ys,sB,hy,AY⟩:=hl.cW
    rw[AY.iX] at sB
    have h0:∀(args:Array Operand),args.toList.map a.eval=[y]→args.map a.eval= #[y]:=fun args e=>by rw[map_toArray,e]
    have h0:=h0 _ sB
    cases hy with
    | @map _ l hφ=>
    split at e
    · rename_i es clock hu RX
      simp at e;subst e
      have zl:=ok.live i _ l RX hφ
      obtain ⟨Jb,ka,hb,hlen,_⟩:=zl
      refine ⟨_,.int _ _,fun w' hw=>?_⟩
      rw[←hw] at hb
      have zw:(getObj l.gG).run E.P w'= .ok (.map ka clock) w':=by simp [getObj,Sem.run,hb]
      simp [resolve,invoke,builtin,h0,Builtin.len_,IN,run_underlying hu,goInt,zw,hlen]
    · simp at e
  · simp at e
 · simp at e
end Go.Ab
end
section
namespace Go.Ab
variable {E:Env}
theorem tx (z:List AV):∀(n i:Nat),i<n*z.length→(gu z n)[i]? =z[i%z.length]?
 | 0,i,h=>by omega
 | n+1,i,h=>by
   rw[gu]
   by_cases hi:i<z.length
   · rw[List.getElem?_append_left hi,Nat.mod_eq_of_lt hi]
   · rw[List.getElem?_append_right (by omega),tx z n (i - z.length) (by rw[Nat.add_mul] at h;omega)]
     rw[Nat.mod_eq_sub_mod (a:=i) (by omega)]
theorem mm (z:List AV):∀n,(gu z n).length=n*z.length
 | 0=>by simp [gu]
 | n+1=>by rw[gu,List.length_append,mm z n,Nat.add_mul];omega
theorem EG {φ:Ph} {z:List AV} {z':Array Value} (h:LR φ z z'.toList) (n:Nat):LR φ (gu z n) ((Array.range (n*z'.size)).map (fun i=>z'[i%z'.size]!)).toList:=by
 have hl:z.length=z'.size:=by simpa using h.1
 refine ⟨by rw[mm];simp [hl],fun i x y hx hy=>?_⟩
 have hi:i<n*z.length:=by
  have:=(List.getElem?_eq_some_iff.1 hx).1
  rwa [mm] at this
 rw[tx z n i hi] at hx
 obtain ⟨v,hv,hr⟩:=h.get hx
 have UZ:0<z'.size:=by
  rcases Nat.eq_zero_or_pos z'.size with h0 | h0
  · rw[hl,h0] at hi;omega
  · exact h0
 have:i%z'.size<z'.size:=Nat.mod_lt _ UZ
 rw[hl] at hi
 simp [hi] at hy
 rw[hl] at hv
 simp [this] at hv
 simp [this] at hy
 rw[←hy,hv];exact hr
structure Made (E:Env) (φ:Ph) (obj:aH) (mk:Nat→AV) (O:Obj) (mk':Nat→Value):Prop where
 val:∀(φ':Ph) (i b:Nat),φ.le φ'→φ' i=some ⟨b,0,0⟩→VR φ' (mk i) (mk' b)
 obj:∀(φ':Ph) (b:Nat),φ.le φ'→OR E φ' obj ⟨b,0,0⟩ (some O)
theorem tz {φ φ':Ph} (hle:φ.le φ') {cs:List AV} {C:Array Value} (h:LR φ cs C.toList) (t e:TypeId) (b:Nat):OR E φ' (.cells cs t false) ⟨b,0,0⟩ (some (.cells C e)):=by
 refine ⟨C,e,0,0,rfl,?_,fun k x hk=>?_,fun _ k _ _=>by omega,fun _ _ _=>rfl⟩
 · have:=h.1;simp at this;simp [fI,this]
 · obtain ⟨y,hy,hr⟩:=h.get hk
   exact ⟨y,by simpa using hy,hr.mono hle⟩
set_option linter.unusedSimpArgs false in
set_option maxHeartbeats 1000000 in
theorem tA {φ:Ph} (hg:GL E φ) {ts:List AV} {a:Act} (ht:LR φ ts a.tmps.toList) {o:Oper} {obj:aH} {mk:Nat→AV} (e:eu E ts o.op=some (obj,mk)):
 ∃O mk',Made E φ obj mk O mk'∧∀w,(execOp a.eval o).run E.P w= .ok (.value (mk' w.heap.size)) (w.alloc O):=by
 have ev:∀{x:Operand} {v:AV},ez E ts x=some v→VR φ v (a.eval x):=fun h=>ml hg ht h
 unfold execOp
 generalize o.op=op at e ⊢
 unfold eu at e
 split at e
 ·
  rename_i t
  split at e
  · rename_i z hz
    simp at e;obtain ⟨rfl,rfl⟩:=e
    obtain ⟨z',wC,jW⟩:=iM hz
    refine ⟨.cells z'.cells t,fun b=> .pointer (some ⟨b,0,none⟩),⟨fun φ' i b _ hi=>by have:=VR.ptr (φ:=φ') 0 hi;simpa using this,fun φ' b hle=>tz hle (wC φ).cells _ _ b⟩,fun w=>fi ?_⟩
    simp [Instr.alloc,jW,newVar,newRow]
  · simp at e
 ·
  rename_i t x
  split at e
  · rename_i v hv
    simp at e;obtain ⟨rfl,rfl⟩:=e
    refine ⟨.cells (a.eval x).cells t,fun b=> .pointer (some ⟨b,0,none⟩),⟨fun φ' i b _ hi=>by have:=VR.ptr (φ:=φ') 0 hi;simpa using this,fun φ' b hle=>tz hle (ev hv).cells _ _ b⟩,fun w=>fi ?_⟩
    simp [Instr.box,newVar,newRow]
  · simp at e
 ·
  rename_i t len parts
  split at e
  · rename_i elem hu
    split at e
    · rename_i n z ps hn hz UX
      split at e
      · rename_i hc
        split at e
        · rename_i cs hf
          simp at e;obtain ⟨rfl,rfl⟩:=e
          obtain ⟨z',wC,jW⟩:=iM hz
          have hp:=uU hg ht UX
          have Pf:z'.cells.size=n:=by have:=(wC φ).cells.1;simp at this;omega
          have Jc:=EG (wC φ).cells len
          rw[Pf] at Jc
          obtain ⟨C',vP,xy⟩:=rG (place:=fun i=>some (i*n,n)) (qs:=(parts.map fun (i,x)=>(i,a.eval x)).toList) (by simpa using hp) Jc hf
          refine ⟨.cells C' elem,fun b=> .slice (some ⟨b,0,none⟩) len len,⟨fun φ' i b _ hi=>by have:=VR.slice (φ:=φ') 0 len len false hi;simpa [gW] using this,fun φ' b hle=>tz hle xy _ _ b⟩,fun w=>fi ?_⟩
          have p_:¬len*n>2^24:=by omega
          simp only[Instr.buildSlice,Sem.run_bind,run_underlying hu,Result.andThen_ok,ew hn,p_,if_false,Sem.run_pure]
          by_cases h0:len*n=0
          · simp only[h0,if_true,Sem.run_pure,Result.andThen_ok]
            rw[h0] at vP
            have r0:Array.range 0= #[]:=rfl
            simp [r0] at vP
            simp [vP,newRow,r0]
          · simp only[h0,if_false,Sem.run_bind,jW,Result.andThen_ok,Sem.run_pure]
            rw[Pf]
            simp only[vP]
            simp [newRow]
        · simp at e
      · simp at e
    · simp at e
  · simp at e
 ·
  rename_i t lo co
  split at e
  · rename_i elem k len k' cap hu hl hc
    split at e
    · rename_i n bytes z hn hb hz
      split at e
      · rename_i I_
        obtain ⟨c1,c2,c3,c4,c5⟩:=I_
        simp at e;obtain ⟨rfl,rfl⟩:=e
        obtain ⟨z',wC,jW⟩:=iM hz
        have Pf:z'.cells.size=n:=by have:=(wC φ).cells.1;simp at this;omega
        have Jc:=EG (wC φ).cells cap.toNat
        rw[Pf] at Jc
        have h1:=ev hl
        have h2:=ev hc
        generalize Pg:a.eval lo=lv at h1
        generalize kr:a.eval co=cv at h2
        cases h1;cases h2
        refine ⟨.cells ((Array.range (cap.toNat*n)).map (fun i=>z'.cells[i%n]!)) elem,fun b=> .slice (some ⟨b,0,none⟩) len.toNat cap.toNat,
         ⟨fun φ' i b _ hi=>by have:=VR.slice (φ:=φ') 0 len.toNat cap.toNat false hi;simpa [gW] using this,fun φ' b hle=>tz hle Jc _ _ b⟩,fun w=>fi ?_⟩
        have w1:IntKind.i64.wrap len=len:=IntWalk.i64_in _ (by omega)
        have w2:IntKind.i64.wrap cap=cap:=IntWalk.i64_in _ (by omega)
        obtain ⟨inf,Cn,kG⟩:=oA hb w
        have t1:¬(cap<0∨(2^48:Int)<bytes*cap):=by omega
        simp only[Instr.makeSlice,Sem.run_bind,run_underlying hu,Result.andThen_ok,Pg,kr,asInt,asIntOf,Sem.run_pure,Cn,kG,w1,w2]
        have Pj:(0:Int)≤inf.bytes*cap:=Int.mul_nonneg (by omega) (by omega)
        have tl:(decide (cap<0)||decide ((inf.bytes:Int)*cap>2^48))=false:=by
         rw[kG];simp only[Bool.or_eq_false_iff,decide_eq_false_iff_not];omega
        have Yc:decide (len<0)=false:=by simp only[decide_eq_false_iff_not];omega
        have Yd:decide (len>cap)=false:=by simp only[decide_eq_false_iff_not];omega
        rw[←kG]
        simp only[tl,Yc,Yd,Bool.or_self,Bool.false_eq_true,if_false,run_askRoom,ew hn,Sem.run_bind,Result.andThen_ok]
        by_cases h0:cap.toNat*n=0
        · have r0:Array.range 0= #[]:=rfl
          simp [h0,newRow,r0]
        · simp only[h0,if_false,Sem.run_bind,jW,Result.andThen_ok,Sem.run_pure]
          simp [newRow,Pf]
      · simp at e
    · simp at e
  · simp at e
 ·
  rename_i t r
  split at e
  · simp at e;obtain ⟨rfl,rfl⟩:=e
    exact ⟨.map #[] 0,fun b=> .map (some b),⟨fun φ' i b _ hi=>by have:=VR.map (φ:=φ') hi;simpa using this,fun φ' b hle=>⟨rfl, #[],rfl,rfl,fun i x y p _=>by simp at p⟩⟩,fun w=>fi (by simp [Instr.makeMap])⟩
  · rename_i o
    split at e
    · rename_i hu hv
      simp at e;obtain ⟨rfl,rfl⟩:=e
      have h1:=ev hv
      generalize Pg:a.eval o=lv at h1
      cases h1
      exact ⟨.map #[] 0,fun b=> .map (some b),⟨fun φ' i b _ hi=>by have:=VR.map (φ:=φ') hi;simpa using this,fun φ' b hle=>⟨rfl, #[],rfl,rfl,fun i x y p _=>by simp at p⟩⟩,fun w=>fi (by simp [Instr.makeMap,run_underlying hu,Pg,asInt,asIntOf])⟩
    · simp at e
 ·
  rename_i t x
  split at e
  · rename_i s hu hx
    simp at e;obtain ⟨rfl,rfl⟩:=e
    have h1:=ev hx
    generalize Pg:a.eval x=lv at h1
    generalize EC:AV.str s=s0 at h1
    cases h1<;>cases EC
    rename_i s'
    exact ⟨.stringIter s' 0,fun b=> .pointer (some ⟨b,0,none⟩),⟨fun φ' i b _ hi=>by have:=VR.ptr (φ:=φ') 0 hi;simpa using this,fun φ' b hle=>⟨rfl,s',rfl,rfl⟩⟩,fun w=>fi (by simp [Instr.range,run_underlying hu,Pg])⟩
  · rename_i hu hx
    simp at e;obtain ⟨rfl,rfl⟩:=e
    have h1:=ev hx
    generalize Pg:a.eval x=lv at h1
    cases h1
    exact ⟨.mapIter none 0 #[] 0,fun b=> .pointer (some ⟨b,0,none⟩),⟨fun φ' i b _ hi=>by have:=VR.ptr (φ:=φ') 0 hi;simpa using this,fun φ' b hle=>⟨rfl,rfl⟩⟩,fun w=>fi (by simp [Instr.range,run_underlying hu,Pg])⟩
  · simp at e
 · simp at e
end Go.Ab
end
