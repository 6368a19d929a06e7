import Derived.Laws.StructEq
import Derived.Laws.Slices
import Derived.Laws.Strings
import Derived.ChangeKeysEq
import Derived.Deep.MidRow
import Derived.Lib.Strings
import Derived.IntWalk
import Derived.Test.YthapgpflpcffnaaGreatDoorA0
set_option linter.unusedVariables false
set_option linter.unusedSimpArgs false
section
namespace Go.Ab
variable {E:Env}
def GL (E:Env) (φ:Ph):Prop:=∀g,g<E.G→φ g=some ⟨g,0,0⟩
theorem hZ {φ:Ph} (hg:GL E φ) {ts:List AV} {a:Act} (ht:LR φ ts a.tmps.toList) {x:Operand} {v:AV} (h:b8 E ts x=some v):VR φ v (a.eval x):=by
 cases x with
 | tmp t=>
   simp only[b8,Option.some.injEq] at h;subst h
   have:=ht.getD (VR.undef φ) t
   rw[show a.eval (.tmp t)=a.tmps.toList.getD t undef by simp [Act.eval,Array.getD_eq_getD_getElem?,List.getD]]
   exact this
 | const c=>exact si φ h
 | global g=>
   simp only[b8] at h
   split at h
   · rename_i gC;simp at h;subst h;have:=VR.ptr 0 (hg g gC);simpa [Act.eval] using this
   · simp at h
 | func f=>simp [b8] at h;subst h;exact VR.FZ (a':=[]) (b':=[]) f (LR.nil φ) (LR.nil φ)
theorem dx {φ:Ph} (hg:GL E φ) {ts:List AV} {a:Act} (ht:LR φ ts a.tmps.toList) {l:List Operand} {r:List AV} (h:cF E ts l=some r):LR φ r (l.map a.eval):=by
 obtain ⟨hl,hv⟩:=lL h
 refine ⟨by simp [hl],fun i x y hx hy=>?_⟩
 simp at hy
 obtain ⟨o,ho,rfl⟩:=hy
 obtain ⟨z,hz,he⟩:=hv i o ho
 rw[hx] at hz;simp at hz;subst hz
 exact hZ hg ht he
theorem b5 {P:Program} {t:TypeId} {n:Nat} (h:(P.info? t).map (·.size)=some n) (w:World):(sizeOf t).run P w= .ok n w:=by
 cases hq:P.info? t with
 | none=>simp [hq] at h
 | some i=>simp [hq] at h;simp [sizeOf,typeInfo,hq,h]
theorem jR {P:Program} {t:TypeId} {n:Nat} (h:(P.info? t).map (·.bytes)=some n) (w:World):∃i,(typeInfo t).run P w= .ok i w∧i.bytes=n:=by
 cases hq:P.info? t with
 | none=>simp [hq] at h
 | some i=>simp [hq] at h;exact ⟨i,by simp [typeInfo,hq],h⟩
theorem d_ {t:TypeId} {z:AV} (h:cL E t=some z):∃z',(∀φ,VR φ z z')∧∀w,(zeroValue t).run E.P w= .ok z' w:=by
 unfold cL at h
 split at h
 · rename_i i hi
   split at h
   · rename_i z' hz
     exact ⟨z',fun φ=>si φ h,fun w=>by simp [zeroValue,typeInfo,hi,hz]⟩
   · simp at h
 · simp at h
theorem km {t:TypeId} {b:Bool} (h:cm E t=some b) (w:World):(isAgg t).run E.P w= .ok b w:=by
 unfold cm at h
 unfold isAgg
 rw[Sem.run_bind]
 split at h<;>rename_i hu<;>simp at h
 · subst h;rw[run_underlying hu];rfl
 · subst h;rw[run_underlying hu];rfl
 · rename_i d h1 h2
   subst h;rw[run_underlying hu]
   cases d<;>first | rfl | (exact absurd rfl (h1 _)) | (exact absurd rfl (h2 _ _))
theorem toArray_extract (l:List Value) (a b:Nat):l.toArray.extract a b=((l.drop a).take (b - a)).toArray:=by simp
theorem iD {φ:Ph} {t:TypeId} {cs:List AV} {dI:List Value} (hc:LR φ cs dI) {off:Nat} {v:AV} (h:dG E t cs off=some v):
 ∃v',VR φ v v'∧∀w,(part t dI.toArray off).run E.P w= .ok v' w:=by
 unfold dG at h
 split at h
 · rename_i ha
   split at h
   · rename_i n hn
     split at h
     · simp at h;subst h
       refine ⟨.agg ((dI.drop off).take n).toArray,VR.Ej ((hc.drop off).take n),fun w=>?_⟩
       simp only[part,Sem.run_bind,km ha,Result.andThen_ok,if_true,b5 hn,Sem.run_pure,toArray_extract,Nat.add_sub_cancel_left]
     · simp at h
   · simp at h
 · rename_i ha
   obtain ⟨y,hy,hv⟩:=hc.get h
   refine ⟨y,hv,fun w=>?_⟩
   simp only[part,Sem.run_bind,km ha,Result.andThen_ok,Bool.false_eq_true,if_false]
   have:dI.toArray[off]? =some y:=by simpa using hy
   simp [this]
 · simp at h
theorem bytes_beq (a b:ByteArray):(a.toList==b.toList)=(a.data.toList==b.data.toList):=by rw[ByteArray.toList_eq,ByteArray.toList_eq]
set_option linter.unusedSimpArgs false in
theorem BD {φ:Ph} {op:BinOp} {k:IntKind} {x y:Int} {v:AV} (h:bC op k x y=some v) (hs:op≠ .shl) (kn:op≠ .shr) (t:TypeId):
 ∃v',VR φ v v'∧∀w,(binOp op t (.int k x) (.int k y)).run E.P w= .ok v' w:=by
 unfold bC at h
 split at h
 all_goals first
  | (simp at h;subst h;exact ⟨_,.int _ _,fun w=>by simp [binOp,Op.intArith,Op.intBits,Op.intCmp]⟩)
  | (simp at h;subst h;exact ⟨_,.bool _,fun w=>by simp [binOp,Op.intArith,Op.intBits,Op.intCmp]⟩)
  | (split at h
     · simp at h
     · rename_i hy
       simp at h;subst h;exact ⟨_,.int _ _,fun w=>by simp [binOp,Op.intDiv,hy]⟩)
  | simp at h
set_option linter.unusedSimpArgs false in
theorem BE {φ:Ph} {op:BinOp} {x y:ByteArray} {v:AV} (h:lG op x.data.toList y.data.toList=some v) (t:TypeId):
 ∃v',VR φ v v'∧∀w,(binOp op t (.string x) (.string y)).run E.P w= .ok v' w:=by
 unfold lG at h
 split at h
 · split at h
   · rename_i gC
     simp at h;subst h
     refine ⟨.string (x++y),?_,fun w=>?_⟩
     · have:=VR.str (φ:=φ) (x++y);simpa using this
     · have XL:x.size+y.size<1099511627776:=by
        have e:∀b:ByteArray,b.size=b.data.toList.length:=fun b=>by cases b;rfl
        rw[e,e];exact gC
       have hm:IntKind.i64.max=9223372036854775807:=by decide
       have:¬((x.size+y.size:Nat):Int) >IntKind.i64.max:=by rw[hm];omega
       simp only[binOp,Op.stringOp,this,if_false,Sem.run_pure]
   · simp at h
 all_goals first
  | (simp only[Option.some.injEq] at h;subst h;exact ⟨_,.bool _,fun w=>by simp only[binOp,Op.stringOp,bytes_beq,ByteArray.toList_eq,Sem.run_pure]⟩)
  | simp at h
theorem vF {φ:Ph} {t:TypeId} {x y:AV} {r:Bool} (h:Ei E t x y=some r) {x' y':Value} (hx:VR φ x x') (hy:VR φ y y') (dd:Nat):
 ∀w,(Op.equalIn (dd+1) t x' y').run E.P w= .ok r w:=by
 intro w
 unfold Ei at h
 split at h<;>(try (simp at h;done))
 all_goals
  rename_i hd
  split at h<;>(try (simp at h;done))
  all_goals
   simp only[Option.some.injEq] at h
   subst h
   unfold Op.equalIn
   rw[Sem.run_bind,run_underlying hd]
   cases hx<;>cases hy<;>rfl
theorem zg {φ:Ph} {t:TypeId} {x y:AV} {r:Bool} (h:Ei E t x y=some r) {x' y':Value} (hx:VR φ x x') (hy:VR φ y y'):
 ∀w,(Op.equal t x' y').run E.P w= .ok r w:=vF h hx hy 9999
theorem jI {φ:Ph} {eq:TypeId→AV→AV→Option Bool} {d:Nat} (heq:∀t a b r a' b',eq t a b=some r→VR φ a a'→VR φ b b'→∀w,(Op.equalIn d t a' b').run E.P w= .ok r w)
 {xs ys:List AV} {rY pM:Array Value} (hx:LR φ xs rY.toList) (hy:LR φ ys pM.toList):∀{fs:List Field} {r:Bool} (_:iC E eq xs ys fs=some r) (w:World),(Op.eqFields d rY pM fs).run E.P w= .ok r w
 | [],r,h,w=>by simp [iC] at h;subst h;rfl
 | f::fs,r,h,w=>by
   simp only[iC] at h
   unfold Op.eqFields
   split at h
   · rename_i hn
     rw[if_neg (by simp [hn])]
     exact jI heq hx hy h w
   · rename_i hn
     rw[if_pos hn]
     split at h
     · rename_i a b ha hb
       obtain ⟨a',Wb,To⟩:=iD hx ha
       obtain ⟨b',Wc,Tp⟩:=iD hy hb
       rw[Array.toArray_toList] at To Tp
       split at h
       · rename_i he
         have:=jI heq hx hy h w
         simp [Sem.run_bind,To,Tp,heq _ _ _ _ _ _ he Wb Wc,this]
       · rename_i he
         simp at h;subst h
         simp [Sem.run_bind,To,Tp,heq _ _ _ _ _ _ he Wb Wc]
       · simp at h
     · simp at h
theorem iL {φ:Ph}:∀(n d:Nat) (t:TypeId) (a b:AV) (r:Bool) (a' b':Value) (_:iF E n t a b=some r) (_:VR φ a a') (_:VR φ b b') (w:World),(Op.equalIn (d+n) t a' b').run E.P w= .ok r w
 | 0,_,_,_,_,_,_,_,h,_,_,_=>by simp [iF] at h
 | n+1,d,t,a,b,r,a',b',h,ha,hb,w=>by
   rw[←Nat.add_assoc]
   unfold iF at h
   split at h
   · cases ha;cases hb
     split at h
     · rename_i hu
       split at h
       · rename_i hk;subst hk
         simp at h;subst h
         exact run_equalIn_int w (d+n) t _ _ _ _ hu
       · simp at h
     · simp at h
   · cases ha;cases hb
     split at h
     · rename_i hu
       simp only[Option.some.injEq] at h;subst h
       rw[run_equalIn_string w (d+n) t _ _ hu,ByteArray.toList_eq,ByteArray.toList_eq]
     · simp at h
   · obtain ⟨rY,rfl,xb⟩:=ha.eP
     obtain ⟨pM,rfl,ng⟩:=hb.eP
     split at h
     · rename_i fs hu
       split at h
       · rename_i er
         have SD:E.P.fieldsOf t=fs:=by simp [Program.fieldsOf,hu]
         rw[run_equalIn_struct w (d+n) t rY pM (by rw[SD];exact hu) er,SD]
         exact jI (fun t a b r a' b' h1 h2 h3 w=>iL n d t a b r a' b' h1 h2 h3 w) xb ng h w
       · simp at h
     · simp at h
   · exact vF h ha hb (d+n) w
theorem qM {op:BinOp} {t:TypeId} (x y:Operand) (xs ys:Array Value) (h:E.P.eqGuardType E.P.depth t=false) (w:World):(eqGuard op t x y (.agg xs) (.agg ys)).run E.P w= .ok () w:=by
 unfold eqGuard
 cases op<;>(try rfl)
 all_goals simp [Sem.run_bind,run_program,h]
theorem nq {op:BinOp} (h1:op≠ .eql) (h2:op≠ .neq) (t:TypeId) (x y:Operand) (a b:Value) (w:World):(eqGuard op t x y a b).run E.P w= .ok () w:=by
 unfold eqGuard;cases op<;>first | rfl | (exact absurd rfl h1) | (exact absurd rfl h2)
def xe (xc yc:Bool):Value→Value→Bool
 | .nilIface,.nilIface=>xc||yc
 | .agg _,.agg _=>false
 | _,_=>true
theorem gP {op:BinOp} (t:TypeId) (x y:Operand) (a b:Value) (h:xe (isConst x) (isConst y) a b=true) (w:World):
 (eqGuard op t x y a b).run E.P w= .ok () w:=by
 unfold eqGuard
 cases op<;>(try rfl)
 all_goals
  cases a<;>cases b<;>first
   | rfl
   | (simp [xe] at h;done)
   | (cases x<;>cases y<;>first | rfl | (simp [xe,isConst] at h;done))
theorem vG {k k':IntKind} {x y:Int} (hy:¬y<0) (t:TypeId):
 (∀w,(binOp .shl t (.int k x) (.int k' y)).run E.P w= .ok (.int k (k.wrap (x*2^(min y.toNat k.bits)))) w)∧
 (∀w,(binOp .shr t (.int k x) (.int k' y)).run E.P w= .ok (.int k (x.fdiv (2^(min y.toNat k.bits)))) w):=by
 constructor<;>intro w<;>simp [binOp,Op.shift,hy]
theorem sr {φ:Ph} {a b:AV} {a' b':Value} (hx:VR φ a a') (hy:VR φ b b') {xo yo:Operand} (h:ju (isConst xo) (isConst yo) a b=true):
 xe (isConst xo) (isConst yo) a' b'=true:=by
 cases hx<;>cases hy<;>first | rfl | exact h | (simp [ju] at h;done)
def fk:Value→Prop
 | .float _ _ | .complex _ _ _=>False
 | _=>True
theorem VR.fk {φ:Ph} {a:AV} {a':Value} (h:VR φ a a'):Ab.fk a':=by
 cases h with
 | any _ h=>cases a'<;>first | exact trivial | cases h
 | _=>exact trivial
theorem binOp_eql (t:TypeId) {a b:Value} (h1:∀k m k' m',a= .int k m→b= .int k' m'→False) (h2:∀k m,a= .string k→b= .string m→False) (h3:fk a) (h4:fk b):
 binOp .eql t a b=(do pure (.bool (←Op.equal t a b)):Sem Value):=by
 unfold binOp
 split<;>first
  | rfl
  | contradiction
  | (exact (h1 _ _ _ _ rfl rfl).elim)
  | (exact (h2 _ _ rfl rfl).elim)
  | (exact h3.elim)
  | (exact h4.elim)
  | (exfalso;simp_all;done)
theorem binOp_neq (t:TypeId) {a b:Value} (h1:∀k m k' m',a= .int k m→b= .int k' m'→False) (h2:∀k m,a= .string k→b= .string m→False) (h3:fk a) (h4:fk b):
 binOp .neq t a b=(do pure (.bool (!(←Op.equal t a b))):Sem Value):=by
 unfold binOp
 split<;>first
  | rfl
  | contradiction
  | (exact (h1 _ _ _ _ rfl rfl).elim)
  | (exact (h2 _ _ rfl rfl).elim)
  | (exact h3.elim)
  | (exact h4.elim)
  | (exfalso;simp_all;done)
set_option linter.unusedSimpArgs false in
theorem F_ {φ:Ph} {op:BinOp} {t:TypeId} {xo yo:Operand} {a b v:AV} (h:eT E op t (isConst xo) (isConst yo) a b=some v) {a' b':Value} (hx:VR φ a a') (hy:VR φ b b'):
 ∃v',VR φ v v'∧∀w,(do eqGuard op t xo yo a' b';binOp op t a' b':Sem Value).run E.P w= .ok v' w:=by
 unfold eT at h
 split at h
 ·
  cases hx;cases hy
  split at h
  · simp at h
  · rename_i hn
    simp at h;subst h
    refine ⟨_,.int _ _,fun w=>?_⟩
    rw[Sem.run_bind,nq (by decide) (by decide)]
    exact (vG (E:=E) hn t).1 w
 · cases hx;cases hy
   split at h
   · simp at h
   · rename_i hn
     simp at h;subst h
     refine ⟨_,.int _ _,fun w=>?_⟩
     rw[Sem.run_bind,nq (by decide) (by decide)]
     exact (vG (E:=E) hn t).2 w
 · rename_i k x k' y h1 h2
   cases hx;cases hy
   split at h
   · rename_i hk;subst hk
     obtain ⟨v',hv,hr⟩:=BD (φ:=φ) (E:=E) h h1 h2 t
     refine ⟨v',hv,fun w=>?_⟩
     rw[Sem.run_bind,gP _ _ _ _ _ rfl]
     exact hr w
   · simp at h
 · cases hx;cases hy
   obtain ⟨v',hv,hr⟩:=BE (φ:=φ) (E:=E) h t
   refine ⟨v',hv,fun w=>?_⟩
   rw[Sem.run_bind,gP _ _ _ _ _ rfl]
   exact hr w
 ·
  split at h
  · simp at h
  · rename_i hg
    split at h
    · rename_i r hr
      simp at h;subst h
      refine ⟨_,.bool r,fun w=>?_⟩
      obtain ⟨rY,rfl,xb⟩:=hx.eP
      obtain ⟨pM,rfl,ng⟩:=hy.eP
      rw[Sem.run_bind,qM _ _ _ _ (by simpa using hg)]
      have:=iL 16 9984 t _ _ r _ _ hr hx hy w
      simp only[Result.andThen_ok]
      rw[binOp_eql (a:= .agg rY) (b:= .agg pM) t (fun _ _ _ _ e=>by simp at e) (fun _ _ e=>by simp at e) trivial trivial,Sem.run_bind]
      rw[show (Op.equal t (.agg rY) (.agg pM)).run E.P w= .ok r w from this];rfl
    · simp at h
 · split at h
   · simp at h
   · rename_i hg
     split at h
     · rename_i r hr
       simp at h;subst h
       refine ⟨_,.bool (!r),fun w=>?_⟩
       obtain ⟨rY,rfl,xb⟩:=hx.eP
       obtain ⟨pM,rfl,ng⟩:=hy.eP
       rw[Sem.run_bind,qM _ _ _ _ (by simpa using hg)]
       have:=iL 16 9984 t _ _ r _ _ hr hx hy w
       simp only[Result.andThen_ok]
       rw[binOp_neq (a:= .agg rY) (b:= .agg pM) t (fun _ _ _ _ e=>by simp at e) (fun _ _ e=>by simp at e) trivial trivial,Sem.run_bind]
       rw[show (Op.equal t (.agg rY) (.agg pM)).run E.P w= .ok r w from this];rfl
     · simp at h
 · rename_i h1 h2 _
   split at h
   · rename_i hg
     split at h
     · rename_i r hr
       simp at h;subst h
       refine ⟨_,.bool r,fun w=>?_⟩
       rw[Sem.run_bind,gP _ _ _ _ _ (sr hx hy hg)]
       have:=zg hr hx hy w
       simp only[Result.andThen_ok]
       rw[binOp_eql t (fun k m k' m' e e'=>by subst e;subst e';cases hx<;>cases hy<;>first | exact h1 _ _ _ _ rfl rfl | (simp [ju] at hg;done)) (fun k m e e'=>by subst e;subst e';cases hx<;>cases hy<;>first | exact h2 _ _ rfl rfl | (simp [ju] at hg;done)) (VR.fk hx) (VR.fk hy)]
       rw[Sem.run_bind,this];rfl
     · simp at h
   · simp at h
 · rename_i h1 h2 _
   split at h
   · rename_i hg
     split at h
     · rename_i r hr
       simp at h;subst h
       refine ⟨_,.bool (!r),fun w=>?_⟩
       rw[Sem.run_bind,gP _ _ _ _ _ (sr hx hy hg)]
       have:=zg hr hx hy w
       simp only[Result.andThen_ok]
       rw[binOp_neq t (fun k m k' m' e e'=>by subst e;subst e';cases hx<;>cases hy<;>first | exact h1 _ _ _ _ rfl rfl | (simp [ju] at hg;done)) (fun k m e e'=>by subst e;subst e';cases hx<;>cases hy<;>first | exact h2 _ _ rfl rfl | (simp [ju] at hg;done)) (VR.fk hx) (VR.fk hy)]
       rw[Sem.run_bind,this];rfl
     · simp at h
   · simp at h
 · simp at h
end Go.Ab
end
section
namespace Go.Ab
variable {E:Env}
theorem J_ {φ:Ph} {op:UnOp} {x v:AV} (h:Pm op x=some v) {x':Value} (hx:VR φ x x'):∃v',VR φ v v'∧∀w,(Op.unary op x').run E.P w= .ok v' w:=by
 unfold Pm at h
 split at h
 · cases hx;simp at h;subst h;exact ⟨_,.int _ _,fun w=>by simp [Op.unary,Op.intArith]⟩
 · cases hx;simp at h;subst h;exact ⟨_,.int _ _,fun w=>by simp [Op.unary,Op.intBits]⟩
 · cases hx;simp at h;subst h;exact ⟨_,.bool _,fun w=>by simp [Op.unary]⟩
 · simp at h
theorem nG {φ:Ph} {x:AV} {y n:Nat} (h:iG x y=some n) {x':Value} (hx:VR φ x x') {y':Nat} (hy:y≤y') (code:BoundsCode):
 (∀w,(Instr.sliceBound x' y' code).run E.P w= .ok n w)∧n≤y:=by
 unfold iG at h
 split at h
 · split at h
   · rename_i hc
     cases hx
     simp at h;subst h
     refine ⟨fun w=>?_,by omega⟩
     simp only[Instr.sliceBound,asIntOf,Sem.run_bind,Sem.run_pure,Result.andThen_ok]
     rw[if_pos (by omega)];rfl
   · simp at h
 · simp at h
def BF (φ:Ph):Option AV→Option Value→Prop
 | none,none=>True
 | some x,some y=>VR φ x y
 | _,_=>False
theorem ss (Nn:Bool) (len pQ:Nat) (BG xf vf:Option Value):Instr.sliceBounds Nn len pQ BG xf vf=(do
 let m←(match vf with | some v=>Instr.sliceBound v pQ (if Nn then .slice3Acap else .slice3Alen) | none=>pure pQ:Sem Nat)
 let h←(match xf,vf with | some v,some _=>Instr.sliceBound v m .slice3B | some v,none=>Instr.sliceBound v m (if Nn then .sliceAcap else .sliceAlen) | none,none=>pure len | none,some _=>stuck "Slice: max without high" :Sem Nat)
 let l←(match BG with | some v=>Instr.sliceBound v h (if vf.isSome then .slice3C else .sliceB) | none=>pure 0:Sem Nat)
 pure (l,h,m)):=by
 unfold Instr.sliceBounds
 cases vf<;>cases xf<;>cases BG<;>rfl
theorem jv {φ:Ph} {len cap:Nat} {lo hi mx:Option AV} {l h m:Nat} (e:fp len cap lo hi mx=some (l,h,m)) {BG xf vf:Option Value}
 (JO:BF φ lo BG) (JP:BF φ hi xf) (J':BF φ mx vf) {pQ:Nat} (hc:cap≤pQ) (Nn:Bool) (hlen:len≤cap):
 (∀w,(Instr.sliceBounds Nn len pQ BG xf vf).run E.P w= .ok (l,h,if mx.isNone then pQ else m) w)∧l≤h∧h≤m∧m≤cap∧(mx=none→m=cap):=by
 unfold fp at e
 split at e
 · simp at e
 rename_i m0 SE
 have hm:(∀w,(match vf with | some v=>Instr.sliceBound v pQ (if Nn then .slice3Acap else .slice3Alen) | none=>pure pQ:Sem Nat).run E.P w= .ok (if mx.isNone then pQ else m0) w)∧m0≤cap∧(mx=none→m0=cap):=by
  cases mx with
  | none=>
    cases vf with
    | some _=>exact J'.elim
    | none=>simp at SE;subst SE;exact ⟨fun w=>rfl,Nat.le_refl _,fun _=>rfl⟩
  | some v=>
    cases vf with
    | none=>exact J'.elim
    | some v'=>
      have:=fun code=>nG (E:=E) SE (show VR φ v v' from J') hc code
      exact ⟨(this _).1,(this .index).2,fun e=>by simp at e⟩
 split at e
 · simp at e
 rename_i h0 SF
 have Tq:m0≤(if mx.isNone then pQ else m0):=by split<;>omega
 have hh:(∀w,(match xf,vf with | some v,some _=>Instr.sliceBound v (if mx.isNone then pQ else m0) .slice3B | some v,none=>Instr.sliceBound v (if mx.isNone then pQ else m0) (if Nn then .sliceAcap else .sliceAlen) | none,none=>pure len | none,some _=>stuck "Slice: max without high" :Sem Nat).run E.P w= .ok h0 w)∧h0≤m0:=by
  cases hi with
  | none=>
    cases xf with
    | some _=>exact JP.elim
    | none=>
      cases mx with
      | some _=>simp at SF
      | none=>
        cases vf with
        | some _=>exact J'.elim
        | none=>simp at SF;subst SF;exact ⟨fun w=>rfl,by have:=hm.2.2 rfl;omega⟩
  | some v=>
    cases xf with
    | none=>exact JP.elim
    | some v'=>
      have:=fun code=>nG (E:=E) SF (show VR φ v v' from JP) Tq code
      cases vf with
      | none=>exact ⟨(this _).1,(this .index).2⟩
      | some _=>exact ⟨(this _).1,(this .index).2⟩
 split at e
 · simp at e
 rename_i l0 Ka
 simp at e
 obtain ⟨rfl,rfl,rfl⟩:=e
 have hl:(∀w,(match BG with | some v=>Instr.sliceBound v h0 (if vf.isSome then .slice3C else .sliceB) | none=>pure 0:Sem Nat).run E.P w= .ok l0 w)∧l0≤h0:=by
  cases lo with
  | none=>
    cases BG with
    | some _=>exact JO.elim
    | none=>simp at Ka;subst Ka;exact ⟨fun w=>rfl,by omega⟩
  | some v=>
    cases BG with
    | none=>exact JO.elim
    | some v'=>
      have:=fun code=>nG (E:=E) Ka (show VR φ v v' from JO) (Nat.le_refl _) code
      exact ⟨(this _).1,(this .index).2⟩
 refine ⟨fun w=>?_,hl.2,hh.2,hm.2.1,hm.2.2⟩
 rw[ss,Sem.run_bind,hm.1 w,Result.andThen_ok,Sem.run_bind,hh.1 w,Result.andThen_ok,Sem.run_bind,hl.1 w]
 rfl
theorem mO (b o n:Nat):(⟨b,o,none⟩:Addr).add n=⟨b,o+n,none⟩:=Addr.add_mid b o n
theorem BH {φ:Ph} {t:TypeId} {x v:AV} {lo hi mx:Option AV} (e:bP E t x lo hi mx=some v) {x':Value} {BG xf vf:Option Value}
 (hx:VR φ x x') (JO:BF φ lo BG) (JP:BF φ hi xf) (J':BF φ mx vf):∃v',VR φ v v'∧∀w,(Instr.sliceAt t x' BG xf vf).run E.P w= .ok v' w:=by
 unfold bP at e
 split at e
 ·
  rename_i n elem i o hu
  cases hx with
  | @ptr _ l _ hφ=>
  split at e
  · rename_i l0 h0 m0 size hb hs
    simp at e;subst e
    obtain ⟨hr,h1,h2,h3,h4⟩:=jv (E:=E) hb JO JP J' (Nat.le_refl n) false (Nat.le_refl n)
    have hm:(if mx.isNone then n else m0)=m0:=by
     cases mx with
     | none=>simp [h4 rfl]
     | some _=>rfl
    rw[hm] at hr
    refine ⟨_,.slice (if m0=l0 then o else o+l0*size) (h0 - l0) (m0 - l0) false hφ,fun w=>?_⟩
    simp only[Instr.sliceAt,Sem.run_bind,run_underlying hu,Result.andThen_ok,Instr.sureAddr,Sem.run_pure,hr w,b5 hs,cO,Bool.false_eq_true,if_false]
    by_cases Pr:m0=l0
    · simp [Pr]
    · simp only[Pr,if_false,mO];rw[Nat.add_assoc]
  · simp at e
 ·
  rename_i s hu
  split at e
  · rename_i l0 h0 m0 hb
    simp at e;subst e
    generalize hs:s=s0 at hx hb
    cases hx with
    | str s'=>
    subst hs
    have e1:s'.size=s'.data.toList.length:=by cases s';rfl
    cases vf with
    | some _=>exact J'.elim
    | none=>
    obtain ⟨hr,h1,h2,h3,h4⟩:=jv (E:=E) (mx:=none) (vf:=none) hb JO JP trivial (Nat.le_refl _) false (Nat.le_refl _)
    refine ⟨.string (s'.extract l0 h0),?_,fun w=>?_⟩
    · have:=VR.str (φ:=φ) (s'.extract l0 h0)
      have e2:(s'.extract l0 h0).data.toList=(s'.data.toList.drop l0).take (h0 - l0):=by
       exact Lib.extract_data s' l0 h0
      rw[e2] at this;exact this
    · have F':=hr w
      rw[←e1] at F'
      simp only[Instr.sliceAt,Instr.slice,Sem.run_bind,run_underlying hu,Result.andThen_ok,Option.isSome_none,Bool.false_eq_true,if_false,F',Sem.run_pure]
  · simp at e
 ·
  rename_i elem hu
  cases hx
  split at e
  · rename_i r size hb hs
    simp at e;subst e
    obtain ⟨l0,h0,m0⟩:=r
    obtain ⟨hr,h1,h2,h3,h4⟩:=jv (E:=E) hb JO JP J' (Nat.le_refl _) true (Nat.le_refl _)
    have hm:(if mx.isNone then 0 else m0)=0:=by split<;>omega
    rw[hm] at hr
    refine ⟨_,.aK,fun w=>?_⟩
    obtain rfl:l0=0:=by omega
    obtain rfl:h0=0:=by omega
    simp only[Instr.sliceAt,Instr.slice,Sem.run_bind,run_underlying hu,Result.andThen_ok,hr w,b5 hs,if_true,Sem.run_pure]
  · simp at e
 · rename_i elem i o len cap op hu
   cases hx with
   | @slice _ l _ _ _ _ hφ=>
   split at e
   · rename_i PT
     split at e
     · rename_i l0 h0 m0 size hb hs
       have No:cap≤cO op cap l.dH:=by unfold cO;split<;>omega
       obtain ⟨hr,h1,h2,h3,h4⟩:=jv (E:=E) hb JO JP J' No true PT
       have run:∀w,(Instr.sliceAt t (.slice (some ⟨l.cH,l.off+o,none⟩) len (cO op cap l.dH)) BG xf vf).run E.P w=
        .ok (.slice (if (if mx.isNone then cO op cap l.dH else m0)=l0 then some ⟨l.cH,l.off+o,none⟩ else some ⟨l.cH,l.off+o+l0*size,none⟩) (h0 - l0) ((if mx.isNone then cO op cap l.dH else m0) - l0)) w:=fun w=>by
        simp only[Instr.sliceAt,Instr.slice,Sem.run_bind,run_underlying hu,Result.andThen_ok,hr w,b5 hs,Sem.run_pure,Option.map_some,mO]
       split at e
       · rename_i Pr
         split at e
         · rename_i jP
           have Ps:mx.isNone=true:=by simp at jP;simpa using jP.2
           simp only[Option.some.injEq] at e;subst e
           have e0:h0 - l0=0:=by omega
           rw[e0] at run
           by_cases hq:(if mx.isNone then cO op cap l.dH else m0)=l0
           · exact ⟨_,.cb _ _,fun w=>by rw[run w,if_pos hq]⟩
           · exact ⟨_,.cb _ _,fun w=>by rw[run w,if_neg hq]⟩
         · rename_i jP
           simp at e;subst e
           have Wd:(if mx.isNone then cO op cap l.dH else m0)=m0:=by
            cases Ps:mx with
            | none=>subst Ps;simp at jP;subst jP;simp [cO,h4 rfl]
            | some _=>rfl
           rw[Wd,if_pos Pr] at run
           exact ⟨_,.slice o (h0 - l0) (m0 - l0) false hφ,run⟩
       · rename_i Pr
         simp only[Option.some.injEq] at e;subst e
         have bY:¬(if mx.isNone then cO op cap l.dH else m0)=l0:=by
          split
          · rename_i Ps;have:=h4 (by simpa using Ps);omega
          · exact Pr
         rw[if_neg bY,Nat.add_assoc] at run
         refine ⟨_,?_,run⟩
         have:=VR.slice (φ:=φ) (o+l0*size) (h0 - l0) (m0 - l0) (op&&mx.isNone) hφ
         have e2:cO (op&&mx.isNone) (m0 - l0) l.dH=(if mx.isNone then cO op cap l.dH else m0) - l0:=by
          cases Ps:mx with
          | none=>
            have h5:=h4 Ps
            cases op with
            | true=>simp [cO];omega
            | false=>simp [cO];omega
          | some _=>simp [cO]
         rw[e2] at this;exact this
     · simp at e
   · simp at e
 · simp at e
end Go.Ab
end
section
namespace Go.Ab
variable {E:Env}
theorem jS:∀(l:List Value) (k off:Nat) (C:Array Value),(l.zipIdx k).foldl (fun cs (x:Value×Nat)=>cs.setIfInBounds (off+x.2) x.1) C=eX C (off+k) l
 | [],_,_,_=>rfl
 | v::vs,k,off,C=>by
   rw[List.zipIdx_cons,List.foldl_cons,jS vs (k+1) off,eX,Nat.add_assoc]
theorem LR.setFrom {φ:Ph}:∀{vs:List AV} {jw:List Value} (_:LR φ vs jw) {cs:List AV} {C:Array Value} (_:LR φ cs C.toList) (o:Nat),LR φ (Ab.setFrom cs o vs) (eX C o jw).toList
 | [],jw,hv,cs,C,hc,o=>by rw[hv.dg];exact hc
 | v::vs,jw,hv,cs,C,hc,o=>by
   obtain ⟨y,ys,rfl,hy,ng⟩:=hv.bw
   rw[Ab.setFrom,eX]
   refine LR.setFrom ng ?_ (o+1)
   rw[Array.toList_setIfInBounds]
   exact hc.set hy o
def PR (φ:Ph) (ps:List (Nat×AV)) (qs:List (Nat×Value)):Prop:=ps.length=qs.length∧∀(i:Nat) (x:Nat×AV) (y:Nat×Value),ps[i]? =some x→qs[i]? =some y→x.1=y.1∧VR φ x.2 y.2
theorem PR.bw {φ:Ph} {x:Nat×AV} {xs:List (Nat×AV)} {ys:List (Nat×Value)} (h:PR φ (x::xs) ys):∃y pM,ys=y::pM∧(x.1=y.1∧VR φ x.2 y.2)∧PR φ xs pM:=by
 obtain ⟨hl,hv⟩:=h
 cases ys with
 | nil=>simp at hl
 | cons y ys=>exact ⟨y,ys,rfl,hv 0 x y (by simp) (by simp),by simpa using hl,fun i a b ha hb=>hv (i+1) a b (by simpa using ha) (by simpa using hb)⟩
theorem pR {φ:Ph} (hg:GL E φ) {ts:List AV} {a:Act} (ht:LR φ ts a.tmps.toList):∀{l:List (Nat×Operand)} {r:List (Nat×AV)} (_:eU E ts l=some r),PR φ r (l.map fun (i,x)=>(i,a.eval x))
 | [],r,h=>by simp [eU] at h;subst h;exact ⟨rfl,fun i x y hx _=>by simp at hx⟩
 | (i,o)::rest,r,h=>by
   simp only[eU] at h
   cases hv:b8 E ts o with
   | none=>simp [hv] at h
   | some v=>
     simp only[hv] at h
     cases hr:eU E ts rest with
     | none=>simp [hr] at h
     | some l=>
       simp only[hr,Option.some.injEq] at h;subst h
       obtain ⟨h1,h2⟩:=pR hg ht hr
       refine ⟨by simpa using h1,fun j x y hx hy=>?_⟩
       cases j with
       | zero=>simp at hx hy;subst hx;subst hy;exact ⟨rfl,hZ hg ht hv⟩
       | succ j=>simp at hx;exact h2 j x y hx (by simpa using hy)
theorem mP {φ:Ph} {place:Nat→Option (Nat×Nat)}:∀{ps:List (Nat×AV)} {qs:List (Nat×Value)} (_:PR φ ps qs) {cs dI:List AV} {C:Array Value} (_:LR φ cs C.toList) (_:lf place cs ps=some dI),
 ∃C',Instr.fill place C qs=some C'∧LR φ dI C'.toList
 | [],qs,hp,cs,dI,C,hc,h=>by
   cases qs with
   | nil=>simp [lf] at h;subst h;exact ⟨C,rfl,hc⟩
   | cons q qs=>simp [PR] at hp
 | (i,v)::rest,qs,hp,cs,dI,C,hc,h=>by
   obtain ⟨⟨j,v'⟩,qs',rfl,⟨he,hv⟩,iM⟩:=hp.bw
   simp only at he hv;subst he
   simp only[lf] at h
   simp only[Instr.fill]
   cases El:place i with
   | none=>simp [El] at h
   | some x=>
     obtain ⟨off,size⟩:=x
     simp only[El] at h ⊢
     split at h
     · rename_i Ga
       have xg:=hv.cells
       have hl:v'.cells.size=size:=by have:=xg.1;simp at this;omega
       have FL:C.size=cs.length:=by have:=hc.1;simp at this;omega
       have w_:(decide (v'.cells.size≠size)||decide (off+v'.cells.size>C.size))=false:=by
        simp only[Bool.or_eq_false_iff,decide_eq_false_iff_not];omega
       simp only[w_,Bool.false_eq_true,if_false]
       have PU:(v'.cells.zipIdx.foldl (fun cs (x:Value×Nat)=>cs.setIfInBounds (off+x.2) x.1) C)=eX C off v'.cells.toList:=by
        rw[←Array.foldl_toList]
        have:=jS v'.cells.toList 0 off C
        simpa using this
       rw[PU]
       exact mP iM (LR.setFrom xg hc off) h
     · simp at h
theorem BI {φ:Ph} {t:TypeId} {ps:List (Nat×AV)} {v:AV} (h:wV E t ps=some v) {qs:Array (Nat×Value)} (hp:PR φ ps qs.toList):
 ∃v',VR φ v v'∧∀w,(Instr.build t qs).run E.P w= .ok v' w:=by
 unfold wV at h
 split at h
 · simp at h
 rename_i z hz
 obtain ⟨z',rE,fl⟩:=d_ hz
 split at h
 · rename_i fs hu
   split at h
   · simp at h
   rename_i pl El
   split at h
   · rename_i cs hf
     simp at h;subst h
     have places:∀w,(fs.mapM fun f=>do pure (f.offset,←sizeOf f.type):Sem (Array (Nat×Nat))).run E.P w= .ok pl.toArray w:=by
      intro w
      have key:∀(l:List Field) (r:List (Nat×Nat)),bO (fun f=>match bb E f.type with | some n=>some (f.offset,n) | none=>none) l=some r→
       (l.mapM fun f=>do pure (f.offset,←sizeOf f.type):Sem (List (Nat×Nat))).run E.P w= .ok r w:=by
       intro l
       induction l with
       | nil=>intro r hr;simp [bO] at hr;subst hr;rfl
       | cons f l ih=>
         intro r hr
         simp only[bO] at hr
         cases hs:bb E f.type with
         | none=>simp [hs] at hr
         | some n=>
           simp only[hs] at hr
           cases hm:bO (fun f=>match bb E f.type with | some n=>some (f.offset,n) | none=>none) l with
           | none=>simp [hm] at hr
           | some ys=>
             simp only[hm,Option.some.injEq] at hr;subst hr
             simp only[List.mapM_cons,Sem.run_bind,b5 hs,Result.andThen_ok,Sem.run_pure,ih ys hm]
      have:=key fs.toList pl El
      have hh:(fs.mapM fun f=>do pure (f.offset,←sizeOf f.type):Sem (Array (Nat×Nat)))=(do pure (←(fs.toList.mapM fun f=>do pure (f.offset,←sizeOf f.type):Sem (List (Nat×Nat)))).toArray):=by
       rw[Array.mapM_eq_mapM_toList];rfl
      rw[hh,Sem.run_bind,this];rfl
     obtain ⟨C',qN,su⟩:=mP (place:=(pl[·]?)) hp (cs:=z.cells) (C:=z'.cells) (rE φ).cells hf
     refine ⟨.agg C',by have:=VR.Ej su;simpa using this,fun w=>?_⟩
     simp only[Instr.build,Sem.run_bind,fl,Result.andThen_ok,run_underlying hu,places w]
     simp [qN]
   · simp at h
 · rename_i n elem hu
   split at h
   · simp at h
   rename_i n hn
   split at h
   · rename_i cs hf
     simp at h;subst h
     obtain ⟨C',qN,su⟩:=mP (place:=fun i=>some (i*n,n)) hp (cs:=z.cells) (C:=z'.cells) (rE φ).cells hf
     refine ⟨.agg C',by have:=VR.Ej su;simpa using this,fun w=>?_⟩
     simp [Instr.build,Sem.run_bind,fl,run_underlying hu,b5 hn,qN]
   · simp at h
 · simp at h
theorem zh {φ:Ph}:∀{l:List AV} {x v:AV} (_:Bx x l=some v) {x':Value} (_:VR φ x x') {l':List Value} (_:LR φ l l'),∃v',VR φ v v'∧∀w,(l'.foldlM Builtin.max2 x').run E.P w= .ok v' w
 | [],x,v,h,x',hx,l',hl=>by
   rw[hl.dg]
   cases x<;>simp [Bx] at h
   subst h;exact ⟨x',hx,fun w=>rfl⟩
 | y::ys,x,v,h,x',hx,l',hl=>by
   obtain ⟨y',pM,rfl,hy,ng⟩:=hl.bw
   cases x<;>(try (simp [Bx] at h;done))
   cases y<;>(try (simp [Bx] at h;done))
   cases hx;cases hy
   simp only[Bx] at h
   obtain ⟨v',hv,hr⟩:=zh h (.int _ _) ng
   refine ⟨v',hv,fun w=>?_⟩
   simp only[List.foldlM_cons,Builtin.max2,Sem.run_bind,Sem.run_pure,Result.andThen_ok,hr w]
theorem zi {φ:Ph}:∀{l:List AV} {x v:AV} (_:By x l=some v) {x':Value} (_:VR φ x x') {l':List Value} (_:LR φ l l'),∃v',VR φ v v'∧∀w,(l'.foldlM Builtin.min2 x').run E.P w= .ok v' w
 | [],x,v,h,x',hx,l',hl=>by
   rw[hl.dg]
   cases x<;>simp [By] at h
   subst h;exact ⟨x',hx,fun w=>rfl⟩
 | y::ys,x,v,h,x',hx,l',hl=>by
   obtain ⟨y',pM,rfl,hy,ng⟩:=hl.bw
   cases x<;>(try (simp [By] at h;done))
   cases y<;>(try (simp [By] at h;done))
   cases hx;cases hy
   simp only[By] at h
   obtain ⟨v',hv,hr⟩:=zi h (.int _ _) ng
   refine ⟨v',hv,fun w=>?_⟩
   simp only[List.foldlM_cons,Builtin.min2,Sem.run_bind,Sem.run_pure,Result.andThen_ok,hr w]
theorem map_toArray (f:Operand→Value) (l:Array Operand):l.map f=(l.toList.map f).toArray:=by apply Array.ext';simp
def Mo (E:Env):Prop:=∀f e,E.gN f=some e→∀vs r,e vs=some r→∀φ (jw:List Value),LR φ vs jw→
 ∃r',VR φ r r'∧∀w,(callFunc f jw.toArray).run E.P w= .ok (.value r') w
theorem cj {s:Sem Value} {v:Value} {P:Program} {w w':World} (h:s.run P w= .ok v w'):(do pure (.value (←s)):Sem Next).run P w= .ok (.value v) w':=by
 rw[Sem.run_bind,h];rfl
theorem xh {φ:Ph} (hg:GL E φ) {ts:List AV} {a:Act} (ht:LR φ ts a.tmps.toList) {o:Option Operand} {r:Option AV} (h:gQ E ts o=some r):BF φ r (o.map a.eval):=by
 cases o with
 | none=>simp [gQ] at h;subst h;trivial
 | some o=>
   simp only[gQ] at h
   split at h
   · rename_i v hv;simp at h;subst h;exact hZ hg ht hv
   · simp at h
theorem lR {P:Program} {t:TypeId} {d:TypeDesc} (hu:P.underlying t=some d) (hd:∀m,d= .interface m→False) (v:Value) (xT:TypeId) (ok:Bool) (w:World):
 (Instr.typeAssert (.iface t v) xT t ok).run P w= .ok (if ok then .tuple #[v,.bool true] else v) w:=by
 rw[Instr.typeAssert,Sem.run_bind,run_underlying hu]
 cases d<;>first | (exact (hd _ rfl).elim) | (simp;done)
theorem rF {P:Program} {t u:TypeId} {d:TypeDesc} (hu:P.underlying t=some d) (hd:∀m,d= .interface m→False) (v:Value) (xT:TypeId) (bY:u≠t) {z:Value} (w:World) (hz:(zeroValue t).run P w= .ok z w):
 (Instr.typeAssert (.iface u v) xT t true).run P w= .ok (.tuple #[z,.bool false]) w:=by
 rw[Instr.typeAssert,Sem.run_bind,run_underlying hu]
 cases d<;>first | (exact (hd _ rfl).elim) | (simp [bY,hz];done)
theorem sv {P:Program} {t:TypeId} {d:TypeDesc} (hu:P.underlying t=some d) (hd:∀m,d= .interface m→False) (xT:TypeId) {z:Value} (w:World) (hz:(zeroValue t).run P w= .ok z w):
 (Instr.typeAssert .nilIface xT t true).run P w= .ok (.tuple #[z,.bool false]) w:=by
 rw[Instr.typeAssert,Sem.run_bind,run_underlying hu]
 cases d<;>first | (exact (hd _ rfl).elim) | (simp [hz];done)
set_option maxHeartbeats 1000000 in
theorem qO (PV:Mo E) {φ:Ph} (hg:GL E φ) {ts:List AV} {a:Act} (ht:LR φ ts a.tmps.toList) {o:Oper} {v:AV} (h:aL E ts o.op=some v):
 ∃v',VR φ v v'∧∀w,(execOp a.eval o).run E.P w= .ok (.value v') w:=by
 have ev:∀{x:Operand} {v:AV},b8 E ts x=some v→VR φ v (a.eval x):=fun h=>hZ hg ht h
 unfold execOp
 generalize o.op=op at h ⊢
 unfold aL at h
 split at h
 · exact ⟨_,ev h,fun w=>rfl⟩
 · exact ⟨_,ev h,fun w=>rfl⟩
 ·
  split at h
  · rename_i hc
    have:=ev hc
    generalize fG:a.eval _=cv at this
    cases this
    exact ⟨_,ev h,fun w=>by simp [fG,asBool]⟩
  · rename_i hc
    have:=ev hc
    generalize fG:a.eval _=cv at this
    cases this
    exact ⟨_,ev h,fun w=>by simp [fG,asBool]⟩
  · simp at h
 ·
  rename_i t parts
  split at h
  · rename_i ps Tr
    have hp:=pR hg ht Tr
    obtain ⟨v',hv,hr⟩:=BI (φ:=φ) h (qs:=parts.map fun (i,x)=>(i,a.eval x)) (by simpa using hp)
    exact ⟨v',hv,fun w=>cj (hr w)⟩
  · simp at h
 ·
  split at h<;>(try (simp at h;done))
  all_goals
   rename_i hx
   have:=ev hx
   generalize fG:a.eval _=cv at this
   cases this
   simp only[Option.some.injEq] at h;subst h
   first
    | exact ⟨_,.ptr _ ‹_›,fun w=>by simp [fG]⟩
    | exact ⟨_,.map ‹_›,fun w=>by simp [fG]⟩
    | exact ⟨_,.slice _ _ _ _ ‹_›,fun w=>by simp [fG]⟩
    | exact ⟨_,.func _ _ _ _ _ ‹_› ‹_› ‹_› ‹_›,fun w=>by simp [fG]⟩
 ·
  split at h
  · rename_i hx hy
    obtain ⟨v',hv,hr⟩:=F_ h (ev hx) (ev hy)
    exact ⟨v',hv,fun w=>cj (hr w)⟩
  · simp at h
 ·
  split at h
  · rename_i hx
    obtain ⟨v',hv,hr⟩:=J_ (E:=E) h (ev hx)
    exact ⟨v',hv,fun w=>cj (hr w)⟩
  · simp at h
 ·
  split at h
  · rename_i hs hd hx
    have:=ev hx
    generalize fG:a.eval _=cv at this
    cases this
    simp at h;subst h
    refine ⟨_,.int _ _,fun w=>cj ?_⟩
    simp [fG,convert,run_underlying hs,run_underlying hd,Conv.intToInt]
  · rename_i d s hs hd hx
    have:=ev hx
    generalize fG:a.eval _=cv at this
    simp at h;subst h
    generalize BJ:s=s0 at this
    cases this
    subst BJ
    refine ⟨_,.str _,fun w=>cj ?_⟩
    simp [fG,convert,run_underlying hs,run_underlying hd]
  · rename_i d k n hs hd hx
    have:=ev hx
    generalize fG:a.eval _=cv at this
    cases this
    unfold CY at h
    split at h
    · rename_i h0
      simp at h;subst h
      have he:Utf8.encode n=⟨#[UInt8.ofNat n.toNat]⟩:=by
       have hv:Utf8.valid n=true:=by simp [Utf8.valid];omega
       have h1:n.toNat<0x80:=by omega
       simp [Utf8.encode,hv,h1]
      refine ⟨.string ⟨#[UInt8.ofNat n.toNat]⟩,.str ⟨#[UInt8.ofNat n.toNat]⟩,fun w=>cj ?_⟩
      rw[←he]
      cases d<;>simp [fG,convert,run_underlying hs,run_underlying hd,Conv.intToString]
    · simp at h
  · simp at h
 ·
  split at h
  · simp at h
  · rename_i d v0 hn hu hx
    simp at h;subst h
    refine ⟨_,.iface _ _ _ (ev hx),fun w=>cj ?_⟩
    rw[Instr.makeInterface,Sem.run_bind,run_underlying hu]
    cases d<;>first | (exact (hn _ rfl).elim) | rfl
  · simp at h
 ·
  rename_i f first captured
  split at h
  · rename_i ha hb
    simp at h;subst h
    have h1:=dx hg ht ha
    have h2:=dx hg ht hb
    refine ⟨.func (.func f) (first.map a.eval) (captured.map a.eval),?_,fun w=>cj rfl⟩
    rw[map_toArray,map_toArray]
    exact VR.FZ f h1 h2
  · simp at h
 ·
  split at h
  · rename_i hx hl hh hm
    obtain ⟨v',hv,hr⟩:=BH h (ev hx) (xh hg ht hl) (xh hg ht hh) (xh hg ht hm)
    exact ⟨v',hv,fun w=>cj (hr w)⟩
  · simp at h
 ·
  split at h
  · rename_i fd i o0 hf hx
    split at h
    · rename_i n hn
      split at h
      · simp at h
      · rename_i JQ
        simp at h;subst h
        have:=ev hx
        generalize fG:a.eval _=cv at this
        cases this with
        | @ptr _ l _ hφ=>
        refine ⟨_,.ptr _ hφ,fun w=>cj ?_⟩
        unfold gR at hf
        split at hf
        · rename_i fs hu
          simp [fG,Instr.fieldAt,run_underlying hu,hf,Instr.sureAddr,fieldPlace,b5 hn,JQ,mO,Nat.add_assoc]
        · simp at hf
    · simp at h
  · simp at h
 ·
  split at h
  · rename_i fd cs hf hx
    have:=ev hx
    generalize fG:a.eval _=cv at this
    obtain ⟨dI,rfl,su⟩:=this.eP
    obtain ⟨v',hv,hr⟩:=iD su h
    refine ⟨v',hv,fun w=>cj ?_⟩
    unfold gR at hf
    split at hf
    · rename_i fs hu
      have:=hr w
      simp [fG,Instr.field,run_underlying hu,hf,asAgg] at this ⊢
      exact this
    · simp at hf
  · simp at h
 ·
  split at h
  · rename_i len elem i o0 k n hu hx hi
    split at h
    · rename_i size hs
      split at h
      · rename_i hb
        simp at h;subst h
        have h1:=ev hx
        have h2:=ev hi
        generalize fG:a.eval _=cv at h1
        generalize Np:a.eval _=cw at h2
        cases h1 with
        | @ptr _ l _ hφ=>
        cases h2
        refine ⟨_,.ptr _ hφ,fun w=>cj ?_⟩
        simp [fG,Np,Instr.indexAt,asIntOf,run_underlying hu,Instr.sureAddr,hb,b5 hs,mO,Nat.add_assoc]
      · simp at h
    · simp at h
  · rename_i elem i o0 len cap op k n hu hx hi
    split at h
    · rename_i size hs
      split at h
      · rename_i hb
        simp at h;subst h
        have h1:=ev hx
        have h2:=ev hi
        generalize fG:a.eval _=cv at h1
        generalize Np:a.eval _=cw at h2
        cases h1 with
        | @slice _ l _ _ _ _ hφ=>
        cases h2
        refine ⟨_,.ptr _ hφ,fun w=>cj ?_⟩
        simp [fG,Np,Instr.indexAt,asIntOf,run_underlying hu,hb,b5 hs,mO,Nat.add_assoc]
      · simp at h
    · simp at h
  · simp at h
 ·
  split at h
  · rename_i len elem cs k n hu hx hi
    split at h
    · rename_i size hs
      split at h
      · rename_i hb
        have h1:=ev hx
        have h2:=ev hi
        generalize fG:a.eval _=cv at h1
        generalize Np:a.eval _=cw at h2
        obtain ⟨dI,rfl,su⟩:=h1.eP
        cases h2
        obtain ⟨v',hv,hr⟩:=iD su h
        refine ⟨v',hv,fun w=>cj ?_⟩
        have:=hr w
        simp [fG,Np,Instr.index,asIntOf,run_underlying hu,hb,b5 hs] at this ⊢
        exact this
      · simp at h
    · simp at h
  · rename_i s k n hu hx hi
    split at h
    · rename_i hn
      split at h
      · rename_i b hb
        simp at h;subst h
        have h1:=ev hx
        have h2:=ev hi
        generalize fG:a.eval _=cv at h1
        generalize Np:a.eval _=cw at h2
        generalize BJ:s=s0 at h1
        cases h1 with
        | str s'=>
        subst BJ
        cases h2
        refine ⟨_,.int _ _,fun w=>cj ?_⟩
        have Mp:s'[n.toNat]? =some b:=by
         have:s'.data[n.toNat]? =some b:=by simpa using hb
         rw[←this];rfl
        simp [fG,Np,Instr.index,asIntOf,run_underlying hu,hn,Mp]
      · simp at h
    · simp at h
  · simp at h
 ·
  split at h
  · rename_i vs hx
    have h1:=ev hx
    generalize fG:a.eval _=cv at h1
    obtain ⟨jw,rfl,su⟩:=h1.vD
    obtain ⟨y,hy,hv⟩:=su.get h
    refine ⟨y,hv,fun w=>cj ?_⟩
    simp at hy
    simp [fG,Instr.extract,hy]
  · simp at h
 ·
  split at h
  · simp at h
  · rename_i d t v0 hn hu hx
    have h1:=ev hx
    generalize fG:a.eval _=cv at h1
    cases h1 with
    | iface _ _ v1 PW=>
    split at h
    · rename_i Ts
      subst Ts
      simp at h;subst h
      split
      · rename_i jT
        refine ⟨.tuple #[v1,.bool true],VR.tuple' (dI:=[v1,.bool true]) (.cons PW (.cons (.bool true) (.nil φ))),fun w=>cj ?_⟩
        rw[fG,lR hu hn,jT];rfl
      · rename_i jT
        refine ⟨v1,PW,fun w=>cj ?_⟩
        rw[fG,lR hu hn];simp [jT]
    · rename_i Ts
      split at h
      · rename_i jT
        split at h
        · rename_i z hz
          simp at h;subst h
          obtain ⟨z',rE,fl⟩:=d_ hz
          refine ⟨.tuple #[z',.bool false],VR.tuple' (dI:=[z',.bool false]) (.cons (rE φ) (.cons (.bool false) (.nil φ))),fun w=>cj ?_⟩
          rw[fG,jT];exact rF hu hn _ _ Ts w (fl w)
        · simp at h
      · simp at h
  · rename_i d hn hu hx
    have h1:=ev hx
    generalize fG:a.eval _=cv at h1
    cases h1
    split at h
    · rename_i jT
      split at h
      · rename_i z hz
        simp at h;subst h
        obtain ⟨z',rE,fl⟩:=d_ hz
        refine ⟨.tuple #[z',.bool false],VR.tuple' (dI:=[z',.bool false]) (.cons (rE φ) (.cons (.bool false) (.nil φ))),fun w=>cj ?_⟩
        rw[fG,jT];exact sv hu hn _ w (fl w)
      · simp at h
    · simp at h
  · simp at h
 ·
  split at h
  · rename_i t v0 FM BK
    have hl:=dx hg ht BK
    obtain ⟨y,ys,ng,hy,xj⟩:=hl.bw
    rw[xj.dg] at ng
    have sw:∀(args:Array Operand),args.toList.map a.eval=[y]→args.map a.eval= #[y]:=fun args e=>by rw[map_toArray,e]
    have h0:=sw _ ng
    split at h<;>(try (simp at h;done))
    all_goals
     rename_i hu
     simp only[Option.some.injEq] at h;subst h
    · generalize BJ:AV.str _=s0 at hy
      cases hy<;>cases BJ
      rename_i s'
      refine ⟨_,.int _ _,fun w=>?_⟩
      simp [resolve,invoke,builtin,h0,Builtin.len_,FM,run_underlying hu,goInt]
      try rfl
    · refine ⟨_,.int _ _,fun w=>?_⟩
      simp [resolve,invoke,builtin,h0,Builtin.len_,FM,run_underlying hu,goInt]
    · cases hy
      refine ⟨_,.int _ _,fun w=>?_⟩
      simp [resolve,invoke,builtin,h0,Builtin.len_,FM,run_underlying hu,goInt]
    · cases hy
      refine ⟨_,.int _ _,fun w=>?_⟩
      simp [resolve,invoke,builtin,h0,Builtin.len_,FM,run_underlying hu,goInt]
    · cases hy
      refine ⟨_,.int _ _,fun w=>?_⟩
      simp [resolve,invoke,builtin,h0,Builtin.len_,FM,run_underlying hu,goInt]
    · cases hy
      refine ⟨_,.int _ _,fun w=>?_⟩
      simp [resolve,invoke,builtin,h0,Builtin.len_,FM,run_underlying hu,goInt]
  · simp at h
 ·
  split at h
  · rename_i t v0 FM BK
    have hl:=dx hg ht BK
    obtain ⟨y,ys,ng,hy,xj⟩:=hl.bw
    rw[xj.dg] at ng
    have sw:∀(args:Array Operand),args.toList.map a.eval=[y]→args.map a.eval= #[y]:=fun args e=>by rw[map_toArray,e]
    have h0:=sw _ ng
    split at h<;>(try (simp at h;done))
    all_goals
     rename_i hu
     simp only[Option.some.injEq] at h;subst h
    · refine ⟨_,.int _ _,fun w=>?_⟩
      simp [resolve,invoke,builtin,h0,Builtin.cap_,FM,run_underlying hu,goInt]
    · cases hy
      refine ⟨_,.int _ _,fun w=>?_⟩
      simp [resolve,invoke,builtin,h0,Builtin.cap_,FM,run_underlying hu,goInt]
    · cases hy
      refine ⟨_,.int _ _,fun w=>?_⟩
      simp [resolve,invoke,builtin,h0,Builtin.cap_,FM,run_underlying hu,goInt,cO]
  · simp at h
 ·
  rename_i args _
  split at h
  · rename_i x rest BK
    have hl:=dx hg ht BK
    obtain ⟨y,ys,ng,hy,iM⟩:=hl.bw
    obtain ⟨v',hv,hr⟩:=zh (E:=E) h hy iM
    refine ⟨v',hv,fun w=>?_⟩
    have h0:args.map a.eval=(y::ys).toArray:=by rw[map_toArray,ng]
    have:=hr w
    simp [resolve,invoke,builtin,h0,Builtin.max_,this]
  · simp at h
 ·
  rename_i args _
  split at h
  · rename_i x rest BK
    have hl:=dx hg ht BK
    obtain ⟨y,ys,ng,hy,iM⟩:=hl.bw
    obtain ⟨v',hv,hr⟩:=zi (E:=E) h hy iM
    refine ⟨v',hv,fun w=>?_⟩
    have h0:args.map a.eval=(y::ys).toArray:=by rw[map_toArray,ng]
    have:=hr w
    simp [resolve,invoke,builtin,h0,Builtin.min_,this]
  · simp at h
 ·
  rename_i f args _
  split at h
  · rename_i e vs he BK
    have hl:=dx hg ht BK
    obtain ⟨r',hr,dq⟩:=PV f e he vs v h φ _ hl
    refine ⟨r',hr,fun w=>?_⟩
    have:=dq w
    rw[←map_toArray] at this
    simpa [resolve,Deferred.ofValue,invoke,Act.eval] using this
  · simp at h
 · simp at h
end Go.Ab
end
section
namespace Go.Ab
variable {E:Env}
theorem xk {P:Program} {t:TypeId} {k:IntKind} (hu:P.underlying t=some (.int k)) (b:Bool) (n:Nat) (v:Value) (w:World):
 (Instr.checkKey b (n+1) t v).run P w= .ok () w:=by
 unfold Instr.checkKey
 rw[Sem.run_bind,run_underlying hu]
 rfl
theorem xm {P:Program} {t:TypeId} (hu:P.underlying t=some .string) (b:Bool) (n:Nat) (v:Value) (w:World):
 (Instr.checkKey b (n+1) t v).run P w= .ok () w:=by
 unfold Instr.checkKey
 rw[Sem.run_bind,run_underlying hu]
 rfl
theorem lS {φ:Ph} {t:TypeId} {d:TypeDesc} {k:AV} (hu:E.P.underlying t=some d) (hk:gO E (some d) k=true) {k':Value} (h:VR φ k k') (b:Bool) (n:Nat) (w:World):
 (Instr.checkKey b (n+2) t k').run E.P w= .ok () w:=by
 unfold gO at hk
 split at hk
 · rename_i fs xs hd
   cases hd
   obtain ⟨rY,rfl,xb⟩:=h.eP
   unfold Instr.checkKey
   rw[Sem.run_bind,run_underlying hu]
   simp only[Result.andThen_ok]
   have key:∀l:List Field,(l.all fun f=>match E.P.underlying f.type,dG E f.type xs f.offset with
    | some (.int _),some (.int _ _)=>true
    | some .string,some (.str _)=>true
    | _,_=>false)=true→
    (forIn (m:=Sem) l PUnit.unit fun f (_:PUnit)=>if f.name≠ "_" then (do let x←part f.type rY f.offset;Instr.checkKey b (n+1) f.type x;pure (ForInStep.yield PUnit.unit)) else pure (ForInStep.yield PUnit.unit)).run E.P w= .ok PUnit.unit w:=by
    intro l
    induction l with
    | nil=>intro _;rfl
    | cons f l ih=>
      intro ha
      rw[List.all_cons,Bool.and_eq_true] at ha
      obtain ⟨hf,hl⟩:=ha
      have h2:=ih hl
      split at hf
      · rename_i ki kj z e1 e2
        obtain ⟨v',_,hr⟩:=iD xb e2
        rw[Array.toArray_toList] at hr
        simp only[List.forIn_cons,Sem.run_bind]
        split
        · simp only[Sem.run_bind,hr,Result.andThen_ok,xk e1,Sem.run_pure,h2]
        · simp only[Sem.run_pure,Result.andThen_ok,h2]
      · rename_i z e1 e2
        obtain ⟨v',_,hr⟩:=iD xb e2
        rw[Array.toArray_toList] at hr
        simp only[List.forIn_cons,Sem.run_bind]
        split
        · simp only[Sem.run_bind,hr,Result.andThen_ok,xm e1,Sem.run_pure,h2]
        · simp only[Sem.run_pure,Result.andThen_ok,h2]
      · cases hf
   have:=key fs.toList hk
   rw[Array.forIn_toList] at this
   first | exact this | (simp only[Sem.run_bind,this];rfl)
 · cases hk
theorem pS {φ:Ph}:∀{xs ys:List AV} {rY pM:List Value},iH xs ys=true→LR φ xs rY→LR φ ys pM→pM=rY∧(pM.zip rY).all (fun (x,y)=>Instr.sameBits 9999 x y)=true
 | [],[],rY,pM,_,h,h'=>by rw[h.dg,h'.dg];exact ⟨rfl,rfl⟩
 | .int k a::xs,.int j b::ys,rY,pM,e,h,h'=>by
   obtain ⟨x,XM,rfl,hx,xb⟩:=h.bw
   obtain ⟨y,Tt,rfl,hy,ng⟩:=h'.bw
   simp only[iH,Bool.and_eq_true,decide_eq_true_eq] at e
   obtain ⟨⟨rfl,rfl⟩,e⟩:=e
   cases hx;cases hy
   obtain ⟨h1,h2⟩:=pS e xb ng
   subst h1
   refine ⟨rfl,?_⟩
   rw[List.zip_cons_cons,List.all_cons,h2,Bool.and_true]
   simp [Instr.sameBits]
 | .str a::xs,.str b::ys,rY,pM,e,h,h'=>by
   obtain ⟨x,XM,rfl,hx,xb⟩:=h.bw
   obtain ⟨y,Tt,rfl,hy,ng⟩:=h'.bw
   simp only[iH,Bool.and_eq_true,beq_iff_eq] at e
   obtain ⟨rfl,e⟩:=e
   obtain ⟨h1,h2⟩:=pS e xb ng
   subst h1
   generalize hq:AV.str a=q at hx hy
   have XN:y=x:=by
    cases hx with
    | str s1=>
      generalize hr:AV.str s1.data.toList=r at hy
      cases hy with
      | str s2=>
        injection hr with hr
        have:s1.data=s2.data:=Array.toList_inj.1 hr
        cases s1;cases s2;cases this;rfl
      | _=>cases hr
    | _=>cases hq
   subst XN
   refine ⟨rfl,?_⟩
   rw[List.zip_cons_cons,List.all_cons,h2,Bool.and_true]
   cases hx with
   | str s1=>
     show (s1==s1)=true
     cases s1 with
     | mk d=>show (d==d)=true;simp
   | _=>cases hq
theorem xn {φ:Ph} {xs ys:List AV} (e:iH xs ys=true) {k' j':Value} (h:VR φ (.agg xs) k') (h':VR φ (.agg ys) j'):Instr.sameBits 10000 j' k'=true∧j'=k':=by
 obtain ⟨a,rfl,ha⟩:=h.eP
 obtain ⟨b,rfl,hb⟩:=h'.eP
 obtain ⟨h1,h2⟩:=pS e ha hb
 have XO:b=a:=by cases b;cases a;simp at h1;subst h1;rfl
 subst XO
 refine ⟨?_,rfl⟩
 rw[Instr.sameBits]
 simp only[beq_self_eq_true,Bool.true_and]
 exact h2
def Kb (φ:Ph) (k j:AV):Prop:=∀{k' j':Value},VR φ k k'→VR φ j j'→Instr.sameBits 10000 j' k'=true∧j'=k'
theorem jU {φ:Ph} {key:TypeId} {k:AV} {k':Value} (h:VR φ k k'):∀{es:List fA} {fu:List MapEntry} (_:F0 φ es fu) {i:Nat} {r:Option (Nat×AV)} (_:findD E key k es i=some r),
 ∃r',(∀w,(Instr.findAsking key k' fu i).run E.P w= .ok r' w)∧(match r,r' with | none,none=>True | some (j,v),some (j',v')=>j=j'∧VR φ v v'∧i≤j∧∃e,es[j - i]? =some e∧Kb φ k e.key | _,_=>False)
 | [],fu,he,i,r,e=>by
   cases fu with
   | nil=>simp [findD] at e;subst e;exact ⟨none,fun w=>rfl,trivial⟩
   | cons _ _=>simp [F0] at he
 | x::es,fu,he,i,r,e=>by
   obtain ⟨hl,hv⟩:=he
   cases fu with
   | nil=>simp at hl
   | cons y ys=>
     have hx:=hv 0 x y (by simp) (by simp)
     simp only[findD] at e
     split at e
     · rename_i heq
       split at e
       · rename_i zs hz _
         split at e
         · rename_i hs
           simp at e;subst e
           refine ⟨some (i,y.val),fun w=>?_,rfl,hx.val,Nat.le_refl _,x,by simp,?_⟩
           · have q:=iL 16 9984 key _ _ true _ _ heq h hx.key w
             simp only[Instr.findAsking,Sem.run_bind,Op.equal]
             rw[show Op.maxDepth=9984+16 from rfl,q]
             rfl
           · intro a b ha hb
             rw[hz] at hb
             exact xn hs ha hb
         · cases e
       · cases e
     · rename_i heq
       obtain ⟨r',h1,h2⟩:=jU h (es:=es) (fu:=ys) ⟨by simpa using hl,fun i a b p q=>hv (i+1) a b (by simpa using p) (by simpa using q)⟩ e
       refine ⟨r',fun w=>?_,?_⟩
       · have q:=iL 16 9984 key _ _ false _ _ heq h hx.key w
         simp only[Instr.findAsking,Sem.run_bind,Op.equal]
         rw[show Op.maxDepth=9984+16 from rfl,q]
         exact h1 w
       · cases r with
         | none=>cases r' with
           | none=>trivial
           | some _=>exact h2
         | some p=>
           obtain ⟨j,v⟩:=p
           cases r' with
           | none=>exact h2
           | some q=>
             obtain ⟨j',v'⟩:=q
             obtain ⟨h3,h4,h5,e',h6,h7⟩:=h2
             refine ⟨h3,h4,by omega,e',?_,h7⟩
             rw[show j - i=(j -(i+1))+1 by omega];simpa using h6
     · cases e
theorem ir {φ:Ph} {key:TypeId} {d:TypeDesc} {k:AV} (hd:E.P.underlying key=some d) (hk:gO E (some d) k=true) {k':Value} (h:VR φ k k') {fu:List MapEntry} {r':Option (Nat×Value)} {w:World} (hr:(Instr.findAsking key k' fu 0).run E.P w= .ok r' w):
 (Instr.findKey key k' fu).run E.P w= .ok r' w:=by
 unfold gO at hk
 split at hk
 · rename_i fs xs XP
   cases XP
   obtain ⟨rY,rfl,xb⟩:=h.eP
   rw[Instr.findKey,Sem.run_bind,run_underlying hd]
   simp only[Result.andThen_ok]
   cases fu with
   | nil=>exact hr
   | cons y ys=>
     have:Instr.findNow (.struct fs) (.agg rY) (y::ys) 0=none:=rfl
     rw[this]
     exact hr
 · cases hk
end Go.Ab
end
section
namespace Go.Ab
variable {E:Env}
theorem OK.cells {φ:Ph} {h:ah} {w:World} (ok:OK E φ h w) {i:Nat} {cs:List AV} {e:TypeId} {ro:Bool} (hg:h.get i=some (.cells cs e ro)) {l:Loc} (hl:φ i=some l):
 ∃C e' lo hi,w.heap[l.cH]? =some (.cells C e' (lo,hi))∧CR E φ cs e ro l C lo hi:=by
 exact ok.live i _ l hg hl
theorem vH {φ:Ph} {h:ah} {w:World} (ok:OK E φ h w) {t:TypeId} {av v:AV} {v':Value} (hv:VR φ av v') (e:aM E h t av=some v):
 ∃x',VR φ v x'∧∀w',w'.heap=w.heap→(Instr.loadAt t v').run E.P w'= .ok x' w':=by
 unfold aM at e
 split at e
 · rename_i i o
   cases hv with
   | @ptr _ l _ hφ=>
   split at e
   · rename_i cs el ro hg
     obtain ⟨C,e',lo,hi,hb,hc⟩:=ok.cells hg hφ
     unfold dG at e
     split at e
     · rename_i ha
       split at e
       · rename_i n hn
         split at e
         · rename_i hle
           simp at e;subst e
           obtain ⟨vs,PY,Bo,su⟩:=hc.range o n hle
           refine ⟨.agg vs.toArray,VR.Ej su,fun w' PZ=>?_⟩
           rw[←PZ] at hb
           have sx:=im (P:=E.P) hb (l.off+o) vs Bo
           rw[PY] at sx
           simp only[Instr.loadAt,Instr.sureAddr,Sem.run_bind,Sem.run_pure,Result.andThen_ok,loadVar,km ha,if_true,b5 hn,sx]
         · simp at e
       · simp at e
     · rename_i ha
       obtain ⟨y,hy,hr⟩:=hc.val o v e
       refine ⟨y,hr,fun w' PZ=>?_⟩
       rw[←PZ] at hb
       simp only[Instr.loadAt,Instr.sureAddr,Sem.run_bind,Sem.run_pure,Result.andThen_ok,loadVar,km ha,Bool.false_eq_true,if_false,run_load,cell_of_heap hb,hy]
     · simp at e
   · simp at e
 · simp at e
theorem zj {P:Program} (l:List Int):∀(vs:List Value) (acc:ByteArray) (w:World),vs=l.map (fun n=>Value.int .u8 n)→
 (forIn vs acc (fun c s=>(match c with | .int .u8 n=>do pure (ForInStep.yield (s.push (UInt8.ofNat n.toNat))) | _=>do stuck "bytesToString: byte expected";pure (ForInStep.yield s):Sem (ForInStep ByteArray)))).run P w= .ok ⟨(acc.data.toList++l.map (fun n=>UInt8.ofNat n.toNat)).toArray⟩ w:=by
 induction l with
 | nil=>intro vs acc w h;simp at h;subst h;simp [List.forIn_nil]
 | cons b l ih=>
   intro vs acc w h
   cases vs with
   | nil=>simp at h
   | cons v vs=>
     simp at h
     obtain ⟨rfl,BK⟩:=h
     simp only[List.forIn_cons,Sem.run_bind,Sem.run_pure,Result.andThen_ok]
     rw[ih vs _ w BK]
     simp [ByteArray.push]
theorem vI {φ:Ph} {d:TypeDesc} {k j:AV} {r:Bool} (hk:dN (some d) k=true) (e:vB k j=some r) {k' j':Value} (h:VR φ k k') (h':VR φ j j'):Instr.sameNow d k' j'=some r:=by
 unfold vB at e
 split at e
 · generalize hs:AV.str _=s at h
   generalize kn:AV.str _=s' at h'
   cases h<;>cases hs
   cases h'<;>cases kn
   simp at e;subst e
   cases d<;>simp [dN] at hk
   rename_i s s'
   simp only[Instr.sameNow]
   congr 1
 · cases h;cases h'
   split at e
   · rename_i sy
     simp at e;subst e;subst sy
     cases d<;>simp [dN] at hk
     simp [Instr.sameNow]
   · simp at e
 · cases h;cases h'
   simp at e;subst e
   cases d<;>simp [dN] at hk
   simp [Instr.sameNow]
 · simp at e
theorem jV {φ:Ph} {d:TypeDesc} {k:AV} {k':Value} (hk:dN (some d) k=true) (h:VR φ k k'):∀{es:List fA} {fu:List MapEntry} (_:F0 φ es fu) {i:Nat} {r:Option (Nat×AV)} (_:lH k es i=some r),
 ∃r',Instr.findNow d k' fu i=some r'∧(match r,r' with | none,none=>True | some (j,v),some (j',v')=>j=j'∧VR φ v v'∧i≤j∧∃e,es[j - i]? =some e∧vB k e.key=some true | _,_=>False)
 | [],fu,he,i,r,e=>by
   cases fu with
   | nil=>simp [lH] at e;subst e;exact ⟨none,rfl,trivial⟩
   | cons _ _=>simp [F0] at he
 | x::es,fu,he,i,r,e=>by
   obtain ⟨hl,hv⟩:=he
   cases fu with
   | nil=>simp at hl
   | cons y ys=>
     have hx:=hv 0 x y (by simp) (by simp)
     simp only[lH] at e
     split at e
     · rename_i heq
       simp at e;subst e
       refine ⟨some (i,y.val),?_,rfl,hx.val,Nat.le_refl _,x,by simp,heq⟩
       simp [Instr.findNow,vI hk heq h hx.key]
     · rename_i heq
       obtain ⟨r',h1,h2⟩:=jV hk h (es:=es) (fu:=ys) ⟨by simpa using hl,fun i a b p q=>hv (i+1) a b (by simpa using p) (by simpa using q)⟩ e
       refine ⟨r',?_,?_⟩
       · simp [Instr.findNow,vI hk heq h hx.key,h1]
       · cases r with
         | none=>cases r' with
           | none=>trivial
           | some _=>exact h2
         | some p=>
           obtain ⟨j,v⟩:=p
           cases r' with
           | none=>exact h2
           | some q=>
             obtain ⟨j',v'⟩:=q
             obtain ⟨h3,h4,h5,e',h6,h7⟩:=h2
             refine ⟨h3,h4,by omega,e',?_,h7⟩
             rw[show j - i=(j -(i+1))+1 by omega];simpa using h6
     · simp at e
theorem ko {P:Program} {t:TypeId} {d:TypeDesc} (hu:P.underlying t=some d) {k:AV} (hk:dN (some d) k=true) {φ:Ph} {k':Value} (h:VR φ k k') (b:Bool) (n:Nat) (w:World):
 (Instr.checkKey b (n+1) t k').run P w= .ok () w:=by
 unfold Instr.checkKey
 rw[Sem.run_bind,run_underlying hu]
 cases d<;>simp [dN] at hk<;>cases h<;>first | rfl | (simp [dN] at hk)
theorem oo {P:Program} {w:World} {a:Addr} {n:Nat} (l:List Int) (hl:(loadCells a n).run P w= .ok ((l.map (fun n=>Value.int .u8 n)).toArray) w) (c:Nat):
 (Conv.bytesToString (.slice (some a) n c)).run P w= .ok (.string ⟨(l.map (fun n=>UInt8.ofNat n.toNat)).toArray⟩) w:=by
 unfold Conv.bytesToString
 simp only[Sem.run_bind,hl,Result.andThen_ok]
 have:=zj (P:=P) l (l.map (fun n=>Value.int .u8 n)) ByteArray.empty w rfl
 have e:forIn (m:=Sem) (l.map (fun n=>Value.int .u8 n)).toArray ByteArray.empty (fun c s=>(match c with | .int .u8 n=>do pure (ForInStep.yield (s.push (UInt8.ofNat n.toNat))) | _=>do stuck "bytesToString: byte expected";pure (ForInStep.yield s):Sem (ForInStep ByteArray)))
  =forIn (m:=Sem) (l.map (fun n=>Value.int .u8 n)) ByteArray.empty (fun c s=>(match c with | .int .u8 n=>do pure (ForInStep.yield (s.push (UInt8.ofNat n.toNat))) | _=>do stuck "bytesToString: byte expected";pure (ForInStep.yield s):Sem (ForInStep ByteArray))):=by
  rw[←Array.forIn_toList]
 rw[←e] at this
 refine (congrArg (fun r=>Result.andThen r fun a w'=>Sem.run P (pure (Value.string a)) w') this).trans ?_
 simp
theorem qP {φ:Ph}:∀{cs:List AV} {vs:List Value} (_:LR φ cs vs) {l:List UInt8} (_:bO (fun | .int .u8 b=>some (UInt8.ofNat b.toNat) | _=>none) cs=some l),
 ∃ns:List Int,vs=ns.map (fun n=>Value.int .u8 n)∧l=ns.map (fun n=>UInt8.ofNat n.toNat)
 | [],vs,hv,l,h=>by rw[hv.dg];simp [bO] at h;subst h;exact ⟨[],rfl,rfl⟩
 | c::cs,vs,hv,l,h=>by
   obtain ⟨y,ys,rfl,hy,ng⟩:=hv.bw
   simp only[bO] at h
   split at h
   · simp at h
   · rename_i b hb
     split at h
     · simp at h
     · rename_i bs XQ
       simp at h;subst h
       obtain ⟨ns,rfl,rfl⟩:=qP ng XQ
       split at hb
       · cases hy
         simp at hb;subst hb
         exact ⟨_::ns,rfl,rfl⟩
       · simp at hb
structure Entries (P:Program) (x:Value) (es:Array MapEntry) (w:World):Prop where
 is:(x= .map none∧es= #[])∨∃r clock,x= .map (some r)∧w.heap[r]? =some (.map es clock)
theorem sA {P:Program} {t key elem:TypeId} (hu:P.underlying t=some (.map key elem)) {x k:Value} {es:Array MapEntry} {w:World} (pT:Entries P x es w)
 {d:TypeDesc} (hd:P.underlying key=some d) (Bp:∀b n,(Instr.checkKey b (n+1) key k).run P w= .ok () w) {r:Option (Nat×Value)} (hf:Instr.findNow d k es.toList 0=some r) {z:Value} (hz:r=none→(zeroValue elem).run P w= .ok z w) (ok:Bool):
 (Instr.lookup t x k ok).run P w= .ok (match r with | some (_,v)=>if ok then .tuple #[v,.bool true] else v | none=>if ok then .tuple #[z,.bool false] else z) w:=by
 have Em:=fun b=>Bp b 9999
 rw[Instr.lookup]
 simp only[Sem.run_bind,run_underlying hu,Result.andThen_ok]
 rcases pT.is with ⟨rfl,rfl⟩ | ⟨b,clock,rfl,hb⟩
 · simp only[Sem.run_bind,Sem.run_pure,Result.andThen_ok,Em,Instr.findKey,run_underlying hd,hf]
   cases r with
   | none=>simp [hz rfl]
   | some q=>simp
 · have vg:(getObj b).run P w= .ok (.map es clock) w:=by simp [getObj,Sem.run,hb]
   simp only[Sem.run_bind,Sem.run_pure,Result.andThen_ok,vg,Em,Instr.findKey,run_underlying hd,hf]
   cases r with
   | none=>simp [hz rfl]
   | some q=>simp
theorem qQ {P:Program} {t key elem:TypeId} (hu:P.underlying t=some (.map key elem)) {x k:Value} {es:Array MapEntry} {w:World} (pT:Entries P x es w)
 (Bp:∀b,(Instr.checkKey b 10000 key k).run P w= .ok () w) {r:Option (Nat×Value)} (hf:(Instr.findKey key k es.toList).run P w= .ok r w) {z:Value} (hz:r=none→(zeroValue elem).run P w= .ok z w) (ok:Bool):
 (Instr.lookup t x k ok).run P w= .ok (match r with | some (_,v)=>if ok then .tuple #[v,.bool true] else v | none=>if ok then .tuple #[z,.bool false] else z) w:=by
 rw[Instr.lookup]
 simp only[Sem.run_bind,run_underlying hu,Result.andThen_ok]
 rcases pT.is with ⟨rfl,rfl⟩ | ⟨b,clock,rfl,hb⟩
 · simp only[Sem.run_bind,Sem.run_pure,Result.andThen_ok,Bp,hf]
   cases r with
   | none=>simp [hz rfl]
   | some q=>simp
 · have vg:(getObj b).run P w= .ok (.map es clock) w:=by simp [getObj,Sem.run,hb]
   simp only[Sem.run_bind,Sem.run_pure,Result.andThen_ok,vg,Bp,hf]
   cases r with
   | none=>simp [hz rfl]
   | some q=>simp
theorem qR {φ:Ph} (hg:GL E φ) {h:ah} {w:World} (ok:OK E φ h w) {ts:List AV} {a:Act} (ht:LR φ ts a.tmps.toList) {o:Oper} {v:AV} (e:bW E ts h o.op=some v):
 ∃v',VR φ v v'∧∀w',w'.heap=w.heap→(execOp a.eval o).run E.P w'= .ok (.value v') w':=by
 have ev:∀{x:Operand} {v:AV},b8 E ts x=some v→VR φ v (a.eval x):=fun h=>hZ hg ht h
 unfold execOp
 generalize o.op=op at e ⊢
 unfold bW at e
 split at e
 ·
  split at e
  · rename_i hx
    obtain ⟨x',P0,hr⟩:=vH ok (ev hx) e
    exact ⟨x',P0,fun w' hw=>cj (hr w' hw)⟩
  · simp at e
 ·
  split at e
  · rename_i el v0 hs hd hx
    split at e
    · rename_i he
      simp at e;subst e
      have h1:=ev hx
      generalize fG:a.eval _=cv at h1
      cases h1
      refine ⟨.string .empty,VR.str .empty,fun w' _=>cj ?_⟩
      simp [fG,convert,run_underlying hs,run_underlying hd,run_underlying he,Conv.bytesToString]
    · rename_i i o len _ _ he
      split at e
      · rename_i l hb
        simp at e;subst e
        have h1:=ev hx
        generalize fG:a.eval _=cv at h1
        cases h1 with
        | @slice _ lc _ _ _ _ hφ=>
        unfold mM at hb
        split at hb
        · rename_i cs el' ro XR
          split at hb
          · rename_i hle
            obtain ⟨C,e',lo,hi,Wg,hc⟩:=ok.cells XR hφ
            obtain ⟨vs,PY,Bo,su⟩:=hc.range o len hle
            obtain ⟨ns,rfl,rfl⟩:=qP su hb
            refine ⟨.string ⟨(ns.map (fun n=>UInt8.ofNat n.toNat)).toArray⟩,?_,fun w' PZ=>cj ?_⟩
            · have:=VR.str (φ:=φ) ⟨(ns.map (fun n=>UInt8.ofNat n.toNat)).toArray⟩
              simpa using this
            · rw[←PZ] at Wg
              have sx:=im (P:=E.P) Wg (lc.off+o) _ Bo
              rw[PY] at sx
              have:=oo ns sx (cO ‹_› ‹_› lc.dH)
              rw[fG]
              simp only[convert,Sem.run_bind,run_underlying hs,run_underlying hd,Result.andThen_ok,run_underlying he]
              exact this
          · simp at hb
        · simp at hb
      · simp at e
    · simp at e
  · simp at e
 ·
  rename_i t x ix dc
  split at e
  · rename_i key elem m k hu hm hk
    split at e
    · rename_i sy
      have BL:∃d,E.P.underlying key=some d∧dN (some d) k=true:=by
       cases hd:E.P.underlying key with
       | none=>rw[hd] at sy;simp [dN] at sy
       | some d=>rw[hd] at sy;exact ⟨d,rfl,sy⟩
      obtain ⟨d,hd,sB⟩:=BL
      have Kc:=ev hm
      have Gb:=ev hk
      split at e
      · simp at e
      · rename_i es pT
        have pU:∃fu:Array MapEntry,F0 φ es fu.toList∧∀w',w'.heap=w.heap→Entries E.P (a.eval x) fu w':=by
         split at pT
         · simp at pT;subst pT
           generalize fG:a.eval x=cv at Kc
           cases Kc
           exact ⟨#[],⟨rfl,fun i x y p _=>by simp at p⟩,fun w' _=>⟨.inl ⟨rfl,rfl⟩⟩⟩
         · rename_i i
           split at pT
           · rename_i XS clock P1
             simp at pT;subst pT
             generalize fG:a.eval x=cv at Kc
             cases Kc with
             | @map _ l hφ=>
             have u_:=ok.live i _ l P1 hφ
             obtain ⟨Gc,fu,hb,fC⟩:=u_
             exact ⟨fu,fC,fun w' hw=>⟨.inr ⟨l.cH,clock,rfl,by rw[hw];exact hb⟩⟩⟩
           · simp at pT
         · simp at pT
        obtain ⟨fu,fC,dq⟩:=pU
        split at e
        · simp at e
        · rename_i j v0 hf
          obtain ⟨r',h1,h2⟩:=jV sB Gb fC hf
          cases r' with
          | none=>exact h2.elim
          | some q=>
          obtain ⟨j',v'⟩:=q
          obtain ⟨_,Bo,_⟩:=h2
          simp at e;subst e
          refine ⟨if dc then .tuple #[v',.bool true] else v',?_,fun w' hw=>cj ?_⟩
          · split
            · exact VR.tuple' (dI:=[v',.bool true]) (.cons Bo (.cons (.bool true) (.nil φ)))
            · exact Bo
          · exact sA hu (dq w' hw) hd (fun b n=>ko hd sB Gb b n w') h1 (z:=undef) (fun e=>by simp at e) dc
        · rename_i hf
          obtain ⟨r',h1,h2⟩:=jV sB Gb fC hf
          cases r' with
          | some q=>exact h2.elim
          | none=>
          split at e
          · rename_i z hz
            simp at e;subst e
            obtain ⟨z',rE,fl⟩:=d_ hz
            refine ⟨if dc then .tuple #[z',.bool false] else z',?_,fun w' hw=>cj ?_⟩
            · split
              · exact VR.tuple' (dI:=[z',.bool false]) (.cons (rE φ) (.cons (.bool false) (.nil φ)))
              · exact rE φ
            · exact sA hu (dq w' hw) hd (fun b n=>ko hd sB Gb b n w') h1 (fun _=>fl w') dc
          · simp at e
    · split at e
      · rename_i sy
        have BL:∃d,E.P.underlying key=some d∧gO E (some d) k=true:=by
         cases hd:E.P.underlying key with
         | none=>rw[hd] at sy;simp [gO] at sy
         | some d=>rw[hd] at sy;exact ⟨d,rfl,sy⟩
        obtain ⟨d,hd,sB⟩:=BL
        have Kc:=ev hm
        have Gb:=ev hk
        split at e
        · simp at e
        · rename_i es pT
          have pU:∃fu:Array MapEntry,F0 φ es fu.toList∧∀w',w'.heap=w.heap→Entries E.P (a.eval x) fu w':=by
           split at pT
           · simp at pT;subst pT
             generalize fG:a.eval x=cv at Kc
             cases Kc
             exact ⟨#[],⟨rfl,fun i x y p _=>by simp at p⟩,fun w' _=>⟨.inl ⟨rfl,rfl⟩⟩⟩
           · rename_i i
             split at pT
             · rename_i XS clock P1
               simp at pT;subst pT
               generalize fG:a.eval x=cv at Kc
               cases Kc with
               | @map _ l hφ=>
               have u_:=ok.live i _ l P1 hφ
               obtain ⟨Gc,fu,hb,fC⟩:=u_
               exact ⟨fu,fC,fun w' hw=>⟨.inr ⟨l.cH,clock,rfl,by rw[hw];exact hb⟩⟩⟩
             · simp at pT
           · simp at pT
          obtain ⟨fu,fC,dq⟩:=pU
          split at e
          · simp at e
          · rename_i j v0 hf
            obtain ⟨r',h1,h2⟩:=jU Gb fC hf
            cases r' with
            | none=>exact h2.elim
            | some q=>
            obtain ⟨j',v'⟩:=q
            obtain ⟨_,Bo,_⟩:=h2
            simp at e;subst e
            refine ⟨if dc then .tuple #[v',.bool true] else v',?_,fun w' hw=>cj ?_⟩
            · split
              · exact VR.tuple' (dI:=[v',.bool true]) (.cons Bo (.cons (.bool true) (.nil φ)))
              · exact Bo
            · exact qQ hu (dq w' hw) (fun b=>lS hd sB Gb b 9998 w') (ir hd sB Gb (h1 w')) (z:=undef) (fun e=>by simp at e) dc
          · rename_i hf
            obtain ⟨r',h1,h2⟩:=jU Gb fC hf
            cases r' with
            | some q=>exact h2.elim
            | none=>
            split at e
            · rename_i z hz
              simp at e;subst e
              obtain ⟨z',rE,fl⟩:=d_ hz
              refine ⟨if dc then .tuple #[z',.bool false] else z',?_,fun w' hw=>cj ?_⟩
              · split
                · exact VR.tuple' (dI:=[z',.bool false]) (.cons (rE φ) (.cons (.bool false) (.nil φ)))
                · exact rE φ
              · exact qQ hu (dq w' hw) (fun b=>lS hd sB Gb b 9998 w') (ir hd sB Gb (h1 w')) (fun _=>fl w') dc
            · simp at e
      · simp at e
  · simp at e
 ·
  split at e
  · rename_i t i FM BK
    have hl:=dx hg ht BK
    obtain ⟨y,ys,ng,hy,xj⟩:=hl.bw
    rw[xj.dg] at ng
    have h0:∀(args:Array Operand),args.toList.map a.eval=[y]→args.map a.eval= #[y]:=fun args e=>by rw[map_toArray,e]
    have h0:=h0 _ ng
    cases hy with
    | @map _ l hφ=>
    split at e
    · rename_i es clock hu P1
      simp at e;subst e
      have u_:=ok.live i _ l P1 hφ
      obtain ⟨Gc,fu,hb,hlen,_⟩:=u_
      refine ⟨_,.int _ _,fun w' hw=>?_⟩
      rw[←hw] at hb
      have vg:(getObj l.cH).run E.P w'= .ok (.map fu clock) w':=by simp [getObj,Sem.run,hb]
      simp [resolve,invoke,builtin,h0,Builtin.len_,FM,run_underlying hu,goInt,vg,hlen]
    · simp at e
  · simp at e
 · simp at e
end Go.Ab
end
section
namespace Go.Ab
variable {E:Env}
theorem oq (z:List AV):∀(n i:Nat),i<n*z.length→(cM z n)[i]? =z[i%z.length]?
 | 0,i,h=>by omega
 | n+1,i,h=>by
   rw[cM]
   by_cases hi:i<z.length
   · rw[List.getElem?_append_left hi,Nat.mod_eq_of_lt hi]
   · rw[List.getElem?_append_right (by omega),oq z n (i - z.length) (by rw[Nat.add_mul] at h;omega)]
     rw[Nat.mod_eq_sub_mod (a:=i) (by omega)]
theorem h_ (z:List AV):∀n,(cM z n).length=n*z.length
 | 0=>by simp [cM]
 | n+1=>by rw[cM,List.length_append,h_ z n,Nat.add_mul];omega
theorem BN {φ:Ph} {z:List AV} {z':Array Value} (h:LR φ z z'.toList) (n:Nat):LR φ (cM z n) ((Array.range (n*z'.size)).map (fun i=>z'[i%z'.size]!)).toList:=by
 have hl:z.length=z'.size:=by simpa using h.1
 refine ⟨by rw[h_];simp [hl],fun i x y hx hy=>?_⟩
 have hi:i<n*z.length:=by
  have:=(List.getElem?_eq_some_iff.1 hx).1
  rwa [h_] at this
 rw[oq z n i hi] at hx
 obtain ⟨v,hv,hr⟩:=h.get hx
 have Tu:0<z'.size:=by
  rcases Nat.eq_zero_or_pos z'.size with h0 | h0
  · rw[hl,h0] at hi;omega
  · exact h0
 have:i%z'.size<z'.size:=Nat.mod_lt _ Tu
 rw[hl] at hi
 simp [hi] at hy
 rw[hl] at hv
 simp [this] at hv
 simp [this] at hy
 rw[←hy,hv];exact hr
structure Made (E:Env) (φ:Ph) (obj:aF) (mk:Nat→AV) (O:Obj) (mk':Nat→Value):Prop where
 val:∀(φ':Ph) (i b:Nat),φ.le φ'→φ' i=some ⟨b,0,0⟩→VR φ' (mk i) (mk' b)
 obj:∀(φ':Ph) (b:Nat),φ.le φ'→OR E φ' obj ⟨b,0,0⟩ (some O)
theorem ot {φ φ':Ph} (hle:φ.le φ') {cs:List AV} {C:Array Value} (h:LR φ cs C.toList) (t e:TypeId) (b:Nat):OR E φ' (.cells cs t false) ⟨b,0,0⟩ (some (.cells C e)):=by
 refine ⟨C,e,0,0,rfl,?_,fun k x hk=>?_,fun _ k _ _=>by omega,fun _ _ _=>rfl⟩
 · have:=h.1;simp at this;simp [cx,this]
 · obtain ⟨y,hy,hr⟩:=h.get hk
   exact ⟨y,by simpa using hy,hr.mono hle⟩
set_option linter.unusedSimpArgs false in
set_option maxHeartbeats 1000000 in
theorem ou {φ:Ph} (hg:GL E φ) {ts:List AV} {a:Act} (ht:LR φ ts a.tmps.toList) {o:Oper} {obj:aF} {mk:Nat→AV} (e:bZ E ts o.op=some (obj,mk)):
 ∃O mk',Made E φ obj mk O mk'∧∀w,(execOp a.eval o).run E.P w= .ok (.value (mk' w.heap.size)) (w.alloc O):=by
 have ev:∀{x:Operand} {v:AV},b8 E ts x=some v→VR φ v (a.eval x):=fun h=>hZ hg ht h
 unfold execOp
 generalize o.op=op at e ⊢
 unfold bZ at e
 split at e
 ·
  rename_i t
  split at e
  · rename_i z hz
    simp at e;obtain ⟨rfl,rfl⟩:=e
    obtain ⟨z',rE,fl⟩:=d_ hz
    refine ⟨.cells z'.cells t,fun b=> .pointer (some ⟨b,0,none⟩),⟨fun φ' i b _ hi=>by have:=VR.ptr (φ:=φ') 0 hi;simpa using this,fun φ' b hle=>ot hle (rE φ).cells _ _ b⟩,fun w=>cj ?_⟩
    simp [Instr.alloc,fl,newVar,newRow]
  · simp at e
 ·
  rename_i t x
  split at e
  · rename_i v hv
    simp at e;obtain ⟨rfl,rfl⟩:=e
    refine ⟨.cells (a.eval x).cells t,fun b=> .pointer (some ⟨b,0,none⟩),⟨fun φ' i b _ hi=>by have:=VR.ptr (φ:=φ') 0 hi;simpa using this,fun φ' b hle=>ot hle (ev hv).cells _ _ b⟩,fun w=>cj ?_⟩
    simp [Instr.box,newVar,newRow]
  · simp at e
 ·
  rename_i t len parts
  split at e
  · rename_i elem hu
    split at e
    · rename_i n z ps hn hz Tr
      split at e
      · rename_i hc
        split at e
        · rename_i cs hf
          simp at e;obtain ⟨rfl,rfl⟩:=e
          obtain ⟨z',rE,fl⟩:=d_ hz
          have hp:=pR hg ht Tr
          have Nq:z'.cells.size=n:=by have:=(rE φ).cells.1;simp at this;omega
          have Ge:=BN (rE φ).cells len
          rw[Nq] at Ge
          obtain ⟨C',qN,su⟩:=mP (place:=fun i=>some (i*n,n)) (qs:=(parts.map fun (i,x)=>(i,a.eval x)).toList) (by simpa using hp) Ge hf
          refine ⟨.cells C' elem,fun b=> .slice (some ⟨b,0,none⟩) len len,⟨fun φ' i b _ hi=>by have:=VR.slice (φ:=φ') 0 len len false hi;simpa [cO] using this,fun φ' b hle=>ot hle su _ _ b⟩,fun w=>cj ?_⟩
          have Tv:¬len*n>2^24:=by omega
          simp only[Instr.buildSlice,Sem.run_bind,run_underlying hu,Result.andThen_ok,b5 hn,Tv,if_false,Sem.run_pure]
          by_cases h0:len*n=0
          · simp only[h0,if_true,Sem.run_pure,Result.andThen_ok]
            rw[h0] at qN
            have r0:Array.range 0= #[]:=rfl
            simp [r0] at qN
            simp [qN,newRow,r0]
          · simp only[h0,if_false,Sem.run_bind,fl,Result.andThen_ok,Sem.run_pure]
            rw[Nq]
            simp only[qN]
            simp [newRow]
        · simp at e
      · simp at e
    · simp at e
  · simp at e
 ·
  rename_i t lo co
  split at e
  · rename_i elem k len k' cap hu hl hc
    split at e
    · rename_i n bytes z hn hb hz
      split at e
      · rename_i Ga
        obtain ⟨c1,c2,c3,c4,c5⟩:=Ga
        simp at e;obtain ⟨rfl,rfl⟩:=e
        obtain ⟨z',rE,fl⟩:=d_ hz
        have Nq:z'.cells.size=n:=by have:=(rE φ).cells.1;simp at this;omega
        have Ge:=BN (rE φ).cells cap.toNat
        rw[Nq] at Ge
        have h1:=ev hl
        have h2:=ev hc
        generalize Ke:a.eval lo=lv at h1
        generalize fG:a.eval co=cv at h2
        cases h1;cases h2
        refine ⟨.cells ((Array.range (cap.toNat*n)).map (fun i=>z'.cells[i%n]!)) elem,fun b=> .slice (some ⟨b,0,none⟩) len.toNat cap.toNat,
         ⟨fun φ' i b _ hi=>by have:=VR.slice (φ:=φ') 0 len.toNat cap.toNat false hi;simpa [cO] using this,fun φ' b hle=>ot hle Ge _ _ b⟩,fun w=>cj ?_⟩
        have w1:IntKind.i64.wrap len=len:=IntWalk.i64_in _ (by omega)
        have w2:IntKind.i64.wrap cap=cap:=IntWalk.i64_in _ (by omega)
        obtain ⟨inf,zk,fP⟩:=jR hb w
        have t1:¬(cap<0∨(2^48:Int)<bytes*cap):=by omega
        simp only[Instr.makeSlice,Sem.run_bind,run_underlying hu,Result.andThen_ok,Ke,fG,asInt,asIntOf,Sem.run_pure,zk,fP,w1,w2]
        have Nr:(0:Int)≤inf.bytes*cap:=Int.mul_nonneg (by omega) (by omega)
        have tl:(decide (cap<0)||decide ((inf.bytes:Int)*cap>2^48))=false:=by
         rw[fP];simp only[Bool.or_eq_false_iff,decide_eq_false_iff_not];omega
        have XT:decide (len<0)=false:=by simp only[decide_eq_false_iff_not];omega
        have XU:decide (len>cap)=false:=by simp only[decide_eq_false_iff_not];omega
        rw[←fP]
        simp only[tl,XT,XU,Bool.or_self,Bool.false_eq_true,if_false,run_askRoom,b5 hn,Sem.run_bind,Result.andThen_ok]
        by_cases h0:cap.toNat*n=0
        · have r0:Array.range 0= #[]:=rfl
          simp [h0,newRow,r0]
        · simp only[h0,if_false,Sem.run_bind,fl,Result.andThen_ok,Sem.run_pure]
          simp [newRow,Nq]
      · simp at e
    · simp at e
  · simp at e
 ·
  rename_i t r
  split at e
  · simp at e;obtain ⟨rfl,rfl⟩:=e
    exact ⟨.map #[] 0,fun b=> .map (some b),⟨fun φ' i b _ hi=>by have:=VR.map (φ:=φ') hi;simpa using this,fun φ' b hle=>⟨rfl, #[],rfl,rfl,fun i x y p _=>by simp at p⟩⟩,fun w=>cj (by simp [Instr.makeMap])⟩
  · rename_i o
    split at e
    · rename_i hu hv
      simp at e;obtain ⟨rfl,rfl⟩:=e
      have h1:=ev hv
      generalize Ke:a.eval o=lv at h1
      cases h1
      exact ⟨.map #[] 0,fun b=> .map (some b),⟨fun φ' i b _ hi=>by have:=VR.map (φ:=φ') hi;simpa using this,fun φ' b hle=>⟨rfl, #[],rfl,rfl,fun i x y p _=>by simp at p⟩⟩,fun w=>cj (by simp [Instr.makeMap,run_underlying hu,Ke,asInt,asIntOf])⟩
    · simp at e
 ·
  rename_i t x
  split at e
  · rename_i s hu hx
    simp at e;obtain ⟨rfl,rfl⟩:=e
    have h1:=ev hx
    generalize Ke:a.eval x=lv at h1
    generalize BJ:AV.str s=s0 at h1
    cases h1<;>cases BJ
    rename_i s'
    exact ⟨.stringIter s' 0,fun b=> .pointer (some ⟨b,0,none⟩),⟨fun φ' i b _ hi=>by have:=VR.ptr (φ:=φ') 0 hi;simpa using this,fun φ' b hle=>⟨rfl,s',rfl,rfl⟩⟩,fun w=>cj (by simp [Instr.range,run_underlying hu,Ke])⟩
  · rename_i hu hx
    simp at e;obtain ⟨rfl,rfl⟩:=e
    have h1:=ev hx
    generalize Ke:a.eval x=lv at h1
    cases h1
    exact ⟨.mapIter none 0 #[] 0,fun b=> .pointer (some ⟨b,0,none⟩),⟨fun φ' i b _ hi=>by have:=VR.ptr (φ:=φ') 0 hi;simpa using this,fun φ' b hle=>⟨rfl,rfl⟩⟩,fun w=>cj (by simp [Instr.range,run_underlying hu,Ke])⟩
  · simp at e
 · simp at e
end Go.Ab
end
