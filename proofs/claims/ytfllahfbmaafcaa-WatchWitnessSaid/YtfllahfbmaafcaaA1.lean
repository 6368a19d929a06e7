import Derived.Laws.StructEq
import Derived.Laws.Slices
import Derived.Laws.Strings
import Derived.ChangeKeysEq
import Derived.Deep.MidRow
import Derived.Lib.Strings
import Derived.IntWalk
import Derived.Test.YtfllahfbmaafcaaA0
set_option linter.unusedVariables false
set_option linter.unusedSimpArgs false
section
namespace Go.Ab
variable {E:Env}
def GL (E:Env) (φ:Ph):Prop:=∀g,g<E.G→φ g=some ⟨g,0,0⟩
theorem nH {φ:Ph} (hg:GL E φ) {ts:List AV} {a:Act} (ht:LR φ ts a.tmps.toList) {x:Operand} {v:AV} (h:eA E ts x=some v):VR φ v (a.eval x):=by
 cases x with
 | tmp t=>
   simp only[eA,Option.some.injEq] at h;subst h
   have:=ht.getD (VR.undef φ) t
   rw[show a.eval (.tmp t)=a.tmps.toList.getD t undef by simp [Act.eval,Array.getD_eq_getD_getElem?,List.getD]]
   exact this
 | const c=>exact A' φ h
 | global g=>
   simp only[eA] at h
   split at h
   · rename_i lJ;simp at h;subst h;have:=VR.ptr 0 (hg g lJ);simpa [Act.eval] using this
   · simp at h
 | func f=>simp [eA] at h;subst h;exact VR.QC (a':=[]) (b':=[]) f (LR.nil φ) (LR.nil φ)
theorem iI {φ:Ph} (hg:GL E φ) {ts:List AV} {a:Act} (ht:LR φ ts a.tmps.toList) {l:List Operand} {r:List AV} (h:fW E ts l=some r):LR φ r (l.map a.eval):=by
 obtain ⟨hl,hv⟩:=sB h
 refine ⟨by simp [hl],fun i x y hx hy=>?_⟩
 simp at hy
 obtain ⟨o,ho,rfl⟩:=hy
 obtain ⟨z,hz,he⟩:=hv i o ho
 rw[hx] at hz;simp at hz;subst hz
 exact nH hg ht he
theorem eC {P:Program} {t:TypeId} {n:Nat} (h:(P.info? t).map (·.size)=some n) (w:World):(sizeOf t).run P w= .ok n w:=by
 cases hq:P.info? t with
 | none=>simp [hq] at h
 | some i=>simp [hq] at h;simp [sizeOf,typeInfo,hq,h]
theorem qd {P:Program} {t:TypeId} {n:Nat} (h:(P.info? t).map (·.bytes)=some n) (w:World):∃i,(typeInfo t).run P w= .ok i w∧i.bytes=n:=by
 cases hq:P.info? t with
 | none=>simp [hq] at h
 | some i=>simp [hq] at h;exact ⟨i,by simp [typeInfo,hq],h⟩
theorem iJ {t:TypeId} {z:AV} (h:fC E t=some z):∃z',(∀φ,VR φ z z')∧∀w,(zeroValue t).run E.P w= .ok z' w:=by
 unfold fC at h
 split at h
 · rename_i i hi
   split at h
   · rename_i z' hz
     exact ⟨z',fun φ=>A' φ h,fun w=>by simp [zeroValue,typeInfo,hi,hz]⟩
   · simp at h
 · simp at h
theorem qV {t:TypeId} {b:Bool} (h:fD E t=some b) (w:World):(isAgg t).run E.P w= .ok b w:=by
 unfold fD at h
 unfold isAgg
 rw[Sem.run_bind]
 split at h<;>rename_i hu<;>simp at h
 · subst h;rw[run_underlying hu];rfl
 · subst h;rw[run_underlying hu];rfl
 · rename_i d h1 h2
   subst h;rw[run_underlying hu]
   cases d<;>first | rfl | (exact absurd rfl (h1 _)) | (exact absurd rfl (h2 _ _))
theorem toArray_extract (l:List Value) (a b:Nat):l.toArray.extract a b=((l.drop a).take (b - a)).toArray:=by simp
theorem ot {φ:Ph} {t:TypeId} {cs:List AV} {iW:List Value} (hc:LR φ cs iW) {off:Nat} {v:AV} (h:iE E t cs off=some v):
 ∃v',VR φ v v'∧∀w,(part t iW.toArray off).run E.P w= .ok v' w:=by
 unfold iE at h
 split at h
 · rename_i ha
   split at h
   · rename_i n hn
     split at h
     · simp at h;subst h
       refine ⟨.agg ((iW.drop off).take n).toArray,VR.OF ((hc.drop off).take n),fun w=>?_⟩
       simp only[part,Sem.run_bind,qV ha,Result.andThen_ok,if_true,eC hn,Sem.run_pure,toArray_extract,Nat.add_sub_cancel_left]
     · simp at h
   · simp at h
 · rename_i ha
   obtain ⟨y,hy,hv⟩:=hc.get h
   refine ⟨y,hv,fun w=>?_⟩
   simp only[part,Sem.run_bind,qV ha,Result.andThen_ok,Bool.false_eq_true,if_false]
   have:iW.toArray[off]? =some y:=by simpa using hy
   simp [this]
 · simp at h
theorem bytes_beq (a b:ByteArray):(a.toList==b.toList)=(a.data.toList==b.data.toList):=by rw[ByteArray.toList_eq,ByteArray.toList_eq]
theorem KH {φ:Ph} {op:BinOp} {k:IntKind} {x y:Int} {v:AV} (h:c_ op k x y=some v) (hs:op≠ .shl) (qW:op≠ .shr) (t:TypeId):
 ∃v',VR φ v v'∧∀w,(binOp op t (.int k x) (.int k y)).run E.P w= .ok v' w:=by
 unfold c_ at h
 split at h
 all_goals first
  | (simp at h;subst h;exact ⟨_,.int _ _,fun w=>by simp [binOp,Op.intArith,Op.intBits,Op.intCmp]⟩)
  | (simp at h;subst h;exact ⟨_,.bool _,fun w=>by simp [binOp,Op.intArith,Op.intBits,Op.intCmp]⟩)
  | (split at h
     · simp at h
     · rename_i hy
       simp at h;subst h;exact ⟨_,.int _ _,fun w=>by simp [binOp,Op.intDiv,hy]⟩)
  | simp at h
theorem KI {φ:Ph} {op:BinOp} {x y:ByteArray} {v:AV} (h:vq op x.data.toList y.data.toList=some v) (t:TypeId):
 ∃v',VR φ v v'∧∀w,(binOp op t (.string x) (.string y)).run E.P w= .ok v' w:=by
 unfold vq at h
 split at h
 · split at h
   · rename_i lJ
     simp at h;subst h
     refine ⟨.string (x++y),?_,fun w=>?_⟩
     · have:=VR.str (φ:=φ) (x++y);simpa using this
     · have aic:x.size+y.size<1099511627776:=by
        have e:∀b:ByteArray,b.size=b.data.toList.length:=fun b=>by cases b;rfl
        rw[e,e];exact lJ
       have hm:IntKind.i64.max=9223372036854775807:=by decide
       have:¬((x.size+y.size:Nat):Int) >IntKind.i64.max:=by rw[hm];omega
       simp only[binOp,Op.stringOp,this,if_false,Sem.run_pure]
   · simp at h
 all_goals first
  | (simp only[Option.some.injEq] at h;subst h;exact ⟨_,.bool _,fun w=>by simp only[binOp,Op.stringOp,bytes_beq,ByteArray.toList_eq,Sem.run_pure]⟩)
  | simp at h
theorem Ei {φ:Ph} {t:TypeId} {x y:AV} {r:Bool} (h:OE E t x y=some r) {x' y':Value} (hx:VR φ x x') (hy:VR φ y y') (dd:Nat):
 ∀w,(Op.equalIn (dd+1) t x' y').run E.P w= .ok r w:=by
 intro w
 unfold OE at h
 split at h<;>(try (simp at h;done))
 all_goals
  rename_i hd
  split at h<;>(try (simp at h;done))
  all_goals
   simp only[Option.some.injEq] at h
   subst h
   unfold Op.equalIn
   rw[Sem.run_bind,run_underlying hd]
   cases hx<;>cases hy<;>rfl
theorem Ib {φ:Ph} {t:TypeId} {x y:AV} {r:Bool} (h:OE E t x y=some r) {x' y':Value} (hx:VR φ x x') (hy:VR φ y y'):
 ∀w,(Op.equal t x' y').run E.P w= .ok r w:=Ei h hx hy 9999
theorem pP {φ:Ph} {eq:TypeId→AV→AV→Option Bool} {d:Nat} (heq:∀t a b r a' b',eq t a b=some r→VR φ a a'→VR φ b b'→∀w,(Op.equalIn d t a' b').run E.P w= .ok r w)
 {xs ys:List AV} {AX yz:Array Value} (hx:LR φ xs AX.toList) (hy:LR φ ys yz.toList):∀{fs:List Field} {r:Bool} (_:oq E eq xs ys fs=some r) (w:World),(Op.eqFields d AX yz fs).run E.P w= .ok r w
 | [],r,h,w=>by simp [oq] at h;subst h;rfl
 | f::fs,r,h,w=>by
   simp only[oq] at h
   unfold Op.eqFields
   split at h
   · rename_i hn
     rw[if_neg (by simp [hn])]
     exact pP heq hx hy h w
   · rename_i hn
     rw[if_pos hn]
     split at h
     · rename_i a b ha hb
       obtain ⟨a',hva,hra⟩:=ot hx ha
       obtain ⟨b',hvb,hrb⟩:=ot hy hb
       rw[Array.toArray_toList] at hra hrb
       split at h
       · rename_i he
         have:=pP heq hx hy h w
         simp [Sem.run_bind,hra,hrb,heq _ _ _ _ _ _ he hva hvb,this]
       · rename_i he
         simp at h;subst h
         simp [Sem.run_bind,hra,hrb,heq _ _ _ _ _ _ he hva hvb]
       · simp at h
     · simp at h
theorem oE {φ:Ph}:∀(n d:Nat) (t:TypeId) (a b:AV) (r:Bool) (a' b':Value) (_:je E n t a b=some r) (_:VR φ a a') (_:VR φ b b') (w:World),(Op.equalIn (d+n) t a' b').run E.P w= .ok r w
 | 0,_,_,_,_,_,_,_,h,_,_,_=>by simp [je] at h
 | n+1,d,t,a,b,r,a',b',h,ha,hb,w=>by
   rw[←Nat.add_assoc]
   unfold je at h
   split at h
   · cases ha;cases hb
     split at h
     · rename_i hu
       split at h
       · rename_i hk;subst hk
         simp at h;subst h
         exact run_equalIn_int w (d+n) t _ _ _ _ hu
       · simp at h
     · simp at h
   · cases ha;cases hb
     split at h
     · rename_i hu
       simp only[Option.some.injEq] at h;subst h
       rw[run_equalIn_string w (d+n) t _ _ hu,ByteArray.toList_eq,ByteArray.toList_eq]
     · simp at h
   · obtain ⟨AX,rfl,Dx⟩:=ha.ke
     obtain ⟨yz,rfl,uG⟩:=hb.ke
     split at h
     · rename_i fs hu
       split at h
       · rename_i iY
         have hfs:E.P.fieldsOf t=fs:=by simp [Program.fieldsOf,hu]
         rw[run_equalIn_struct w (d+n) t AX yz (by rw[hfs];exact hu) iY,hfs]
         exact pP (fun t a b r a' b' h1 h2 h3 w=>oE n d t a b r a' b' h1 h2 h3 w) Dx uG h w
       · simp at h
     · simp at h
   · exact Ei h ha hb (d+n) w
theorem zA {op:BinOp} {t:TypeId} (x y:Operand) (xs ys:Array Value) (h:E.P.eqGuardType E.P.depth t=false) (w:World):(eqGuard op t x y (.agg xs) (.agg ys)).run E.P w= .ok () w:=by
 unfold eqGuard
 cases op<;>(try rfl)
 all_goals simp [Sem.run_bind,run_program,h]
theorem va {op:BinOp} (h1:op≠ .eql) (h2:op≠ .neq) (t:TypeId) (x y:Operand) (a b:Value) (w:World):(eqGuard op t x y a b).run E.P w= .ok () w:=by
 unfold eqGuard;cases op<;>first | rfl | (exact absurd rfl h1) | (exact absurd rfl h2)
def FM (xc yc:Bool):Value→Value→Bool
 | .nilIface,.nilIface=>xc||yc
 | .agg _,.agg _=>false
 | _,_=>true
theorem mU {op:BinOp} (t:TypeId) (x y:Operand) (a b:Value) (h:FM (isConst x) (isConst y) a b=true) (w:World):
 (eqGuard op t x y a b).run E.P w= .ok () w:=by
 unfold eqGuard
 cases op<;>(try rfl)
 all_goals
  cases a<;>cases b<;>first
   | rfl
   | (simp [FM] at h;done)
   | (cases x<;>cases y<;>first | rfl | (simp [FM,isConst] at h;done))
theorem Ej {k k':IntKind} {x y:Int} (hy:¬y<0) (t:TypeId):
 (∀w,(binOp .shl t (.int k x) (.int k' y)).run E.P w= .ok (.int k (k.wrap (x*2^(min y.toNat k.bits)))) w)∧
 (∀w,(binOp .shr t (.int k x) (.int k' y)).run E.P w= .ok (.int k (x.fdiv (2^(min y.toNat k.bits)))) w):=by
 constructor<;>intro w<;>simp [binOp,Op.shift,hy]
theorem Be {φ:Ph} {a b:AV} {a' b':Value} (hx:VR φ a a') (hy:VR φ b b') {xo yo:Operand} (h:pv (isConst xo) (isConst yo) a b=true):
 FM (isConst xo) (isConst yo) a' b'=true:=by
 cases hx<;>cases hy<;>first | rfl | exact h | (simp [pv] at h;done)
def kL:Value→Prop
 | .float _ _ | .complex _ _ _=>False
 | _=>True
theorem VR.kL {φ:Ph} {a:AV} {a':Value} (h:VR φ a a'):Ab.kL a':=by
 cases h with
 | any _ h=>cases a'<;>first | exact trivial | cases h
 | _=>exact trivial
theorem binOp_eql (t:TypeId) {a b:Value} (h1:∀k m k' m',a= .int k m→b= .int k' m'→False) (h2:∀k m,a= .string k→b= .string m→False) (h3:kL a) (h4:kL b):
 binOp .eql t a b=(do pure (.bool (←Op.equal t a b)):Sem Value):=by
 unfold binOp
 split<;>first
  | rfl
  | contradiction
  | (exact (h1 _ _ _ _ rfl rfl).elim)
  | (exact (h2 _ _ rfl rfl).elim)
  | (exact h3.elim)
  | (exact h4.elim)
  | (exfalso;simp_all;done)
theorem binOp_neq (t:TypeId) {a b:Value} (h1:∀k m k' m',a= .int k m→b= .int k' m'→False) (h2:∀k m,a= .string k→b= .string m→False) (h3:kL a) (h4:kL b):
 binOp .neq t a b=(do pure (.bool (!(←Op.equal t a b))):Sem Value):=by
 unfold binOp
 split<;>first
  | rfl
  | contradiction
  | (exact (h1 _ _ _ _ rfl rfl).elim)
  | (exact (h2 _ _ rfl rfl).elim)
  | (exact h3.elim)
  | (exact h4.elim)
  | (exfalso;simp_all;done)
theorem QK {φ:Ph} {op:BinOp} {t:TypeId} {xo yo:Operand} {a b v:AV} (h:ks E op t (isConst xo) (isConst yo) a b=some v) {a' b':Value} (hx:VR φ a a') (hy:VR φ b b'):
 ∃v',VR φ v v'∧∀w,(do eqGuard op t xo yo a' b';binOp op t a' b':Sem Value).run E.P w= .ok v' w:=by
 unfold ks at h
 split at h
 ·
  cases hx;cases hy
  split at h
  · simp at h
  · rename_i hn
    simp at h;subst h
    refine ⟨_,.int _ _,fun w=>?_⟩
    rw[Sem.run_bind,va (by decide) (by decide)]
    exact (Ej (E:=E) hn t).1 w
 · cases hx;cases hy
   split at h
   · simp at h
   · rename_i hn
     simp at h;subst h
     refine ⟨_,.int _ _,fun w=>?_⟩
     rw[Sem.run_bind,va (by decide) (by decide)]
     exact (Ej (E:=E) hn t).2 w
 · rename_i k x k' y h1 h2
   cases hx;cases hy
   split at h
   · rename_i hk;subst hk
     obtain ⟨v',hv,hr⟩:=KH (φ:=φ) (E:=E) h h1 h2 t
     refine ⟨v',hv,fun w=>?_⟩
     rw[Sem.run_bind,mU _ _ _ _ _ rfl]
     exact hr w
   · simp at h
 · cases hx;cases hy
   obtain ⟨v',hv,hr⟩:=KI (φ:=φ) (E:=E) h t
   refine ⟨v',hv,fun w=>?_⟩
   rw[Sem.run_bind,mU _ _ _ _ _ rfl]
   exact hr w
 ·
  split at h
  · simp at h
  · rename_i hg
    split at h
    · rename_i r hr
      simp at h;subst h
      refine ⟨_,.bool r,fun w=>?_⟩
      obtain ⟨AX,rfl,Dx⟩:=hx.ke
      obtain ⟨yz,rfl,uG⟩:=hy.ke
      rw[Sem.run_bind,zA _ _ _ _ (by simpa using hg)]
      have:=oE 16 9984 t _ _ r _ _ hr hx hy w
      simp only[Result.andThen_ok]
      rw[binOp_eql (a:= .agg AX) (b:= .agg yz) t (fun _ _ _ _ e=>by simp at e) (fun _ _ e=>by simp at e) trivial trivial,Sem.run_bind]
      rw[show (Op.equal t (.agg AX) (.agg yz)).run E.P w= .ok r w from this];rfl
    · simp at h
 · split at h
   · simp at h
   · rename_i hg
     split at h
     · rename_i r hr
       simp at h;subst h
       refine ⟨_,.bool (!r),fun w=>?_⟩
       obtain ⟨AX,rfl,Dx⟩:=hx.ke
       obtain ⟨yz,rfl,uG⟩:=hy.ke
       rw[Sem.run_bind,zA _ _ _ _ (by simpa using hg)]
       have:=oE 16 9984 t _ _ r _ _ hr hx hy w
       simp only[Result.andThen_ok]
       rw[binOp_neq (a:= .agg AX) (b:= .agg yz) t (fun _ _ _ _ e=>by simp at e) (fun _ _ e=>by simp at e) trivial trivial,Sem.run_bind]
       rw[show (Op.equal t (.agg AX) (.agg yz)).run E.P w= .ok r w from this];rfl
     · simp at h
 · rename_i h1 h2 _
   split at h
   · rename_i hg
     split at h
     · rename_i r hr
       simp at h;subst h
       refine ⟨_,.bool r,fun w=>?_⟩
       rw[Sem.run_bind,mU _ _ _ _ _ (Be hx hy hg)]
       have:=Ib hr hx hy w
       simp only[Result.andThen_ok]
       rw[binOp_eql t (fun k m k' m' e e'=>by subst e;subst e';cases hx<;>cases hy<;>first | exact h1 _ _ _ _ rfl rfl | (simp [pv] at hg;done)) (fun k m e e'=>by subst e;subst e';cases hx<;>cases hy<;>first | exact h2 _ _ rfl rfl | (simp [pv] at hg;done)) (VR.kL hx) (VR.kL hy)]
       rw[Sem.run_bind,this];rfl
     · simp at h
   · simp at h
 · rename_i h1 h2 _
   split at h
   · rename_i hg
     split at h
     · rename_i r hr
       simp at h;subst h
       refine ⟨_,.bool (!r),fun w=>?_⟩
       rw[Sem.run_bind,mU _ _ _ _ _ (Be hx hy hg)]
       have:=Ib hr hx hy w
       simp only[Result.andThen_ok]
       rw[binOp_neq t (fun k m k' m' e e'=>by subst e;subst e';cases hx<;>cases hy<;>first | exact h1 _ _ _ _ rfl rfl | (simp [pv] at hg;done)) (fun k m e e'=>by subst e;subst e';cases hx<;>cases hy<;>first | exact h2 _ _ rfl rfl | (simp [pv] at hg;done)) (VR.kL hx) (VR.kL hy)]
       rw[Sem.run_bind,this];rfl
     · simp at h
   · simp at h
 · simp at h
end Go.Ab
end
section
namespace Go.Ab
variable {E:Env}
theorem Vm {φ:Ph} {op:UnOp} {x v:AV} (h:unA op x=some v) {x':Value} (hx:VR φ x x'):∃v',VR φ v v'∧∀w,(Op.unary op x').run E.P w= .ok v' w:=by
 unfold unA at h
 split at h
 · cases hx;simp at h;subst h;exact ⟨_,.int _ _,fun w=>by simp [Op.unary,Op.intArith]⟩
 · cases hx;simp at h;subst h;exact ⟨_,.int _ _,fun w=>by simp [Op.unary,Op.intBits]⟩
 · cases hx;simp at h;subst h;exact ⟨_,.bool _,fun w=>by simp [Op.unary]⟩
 · simp at h
theorem vv {φ:Ph} {x:AV} {y n:Nat} (h:ox x y=some n) {x':Value} (hx:VR φ x x') {y':Nat} (hy:y≤y') (code:BoundsCode):
 (∀w,(Instr.sliceBound x' y' code).run E.P w= .ok n w)∧n≤y:=by
 unfold ox at h
 split at h
 · split at h
   · rename_i hc
     cases hx
     simp at h;subst h
     refine ⟨fun w=>?_,by omega⟩
     simp only[Instr.sliceBound,asIntOf,Sem.run_bind,Sem.run_pure,Result.andThen_ok]
     rw[if_pos (by omega)];rfl
   · simp at h
 · simp at h
def KJ (φ:Ph):Option AV→Option Value→Prop
 | none,none=>True
 | some x,some y=>VR φ x y
 | _,_=>False
theorem Bf (Y3:Bool) (len yH:Nat) (KK FN DE:Option Value):Instr.sliceBounds Y3 len yH KK FN DE=(do
 let m←(match DE with | some v=>Instr.sliceBound v yH (if Y3 then .slice3Acap else .slice3Alen) | none=>pure yH:Sem Nat)
 let h←(match FN,DE with | some v,some _=>Instr.sliceBound v m .slice3B | some v,none=>Instr.sliceBound v m (if Y3 then .sliceAcap else .sliceAlen) | none,none=>pure len | none,some _=>stuck "Slice: max without high" :Sem Nat)
 let l←(match KK with | some v=>Instr.sliceBound v h (if DE.isSome then .slice3C else .sliceB) | none=>pure 0:Sem Nat)
 pure (l,h,m)):=by
 unfold Instr.sliceBounds
 cases DE<;>cases FN<;>cases KK<;>rfl
theorem px {φ:Ph} {len cap:Nat} {lo hi mx:Option AV} {l h m:Nat} (e:kT len cap lo hi mx=some (l,h,m)) {KK FN DE:Option Value}
 (UZ:KJ φ lo KK) (U0:KJ φ hi FN) (Vn:KJ φ mx DE) {yH:Nat} (hc:cap≤yH) (Y3:Bool) (hlen:len≤cap):
 (∀w,(Instr.sliceBounds Y3 len yH KK FN DE).run E.P w= .ok (l,h,if mx.isNone then yH else m) w)∧l≤h∧h≤m∧m≤cap∧(mx=none→m=cap):=by
 unfold kT at e
 split at e
 · simp at e
 rename_i m0 hm0
 have hm:(∀w,(match DE with | some v=>Instr.sliceBound v yH (if Y3 then .slice3Acap else .slice3Alen) | none=>pure yH:Sem Nat).run E.P w= .ok (if mx.isNone then yH else m0) w)∧m0≤cap∧(mx=none→m0=cap):=by
  cases mx with
  | none=>
    cases DE with
    | some _=>exact Vn.elim
    | none=>simp at hm0;subst hm0;exact ⟨fun w=>rfl,Nat.le_refl _,fun _=>rfl⟩
  | some v=>
    cases DE with
    | none=>exact Vn.elim
    | some v'=>
      have:=fun code=>vv (E:=E) hm0 (show VR φ v v' from Vn) hc code
      exact ⟨(this _).1,(this .index).2,fun e=>by simp at e⟩
 split at e
 · simp at e
 rename_i h0 hh0
 have ae2:m0≤(if mx.isNone then yH else m0):=by split<;>omega
 have hh:(∀w,(match FN,DE with | some v,some _=>Instr.sliceBound v (if mx.isNone then yH else m0) .slice3B | some v,none=>Instr.sliceBound v (if mx.isNone then yH else m0) (if Y3 then .sliceAcap else .sliceAlen) | none,none=>pure len | none,some _=>stuck "Slice: max without high" :Sem Nat).run E.P w= .ok h0 w)∧h0≤m0:=by
  cases hi with
  | none=>
    cases FN with
    | some _=>exact U0.elim
    | none=>
      cases mx with
      | some _=>simp at hh0
      | none=>
        cases DE with
        | some _=>exact Vn.elim
        | none=>simp at hh0;subst hh0;exact ⟨fun w=>rfl,by have:=hm.2.2 rfl;omega⟩
  | some v=>
    cases FN with
    | none=>exact U0.elim
    | some v'=>
      have:=fun code=>vv (E:=E) hh0 (show VR φ v v' from U0) ae2 code
      cases DE with
      | none=>exact ⟨(this _).1,(this .index).2⟩
      | some _=>exact ⟨(this _).1,(this .index).2⟩
 split at e
 · simp at e
 rename_i l0 Y4
 simp at e
 obtain ⟨rfl,rfl,rfl⟩:=e
 have hl:(∀w,(match KK with | some v=>Instr.sliceBound v h0 (if DE.isSome then .slice3C else .sliceB) | none=>pure 0:Sem Nat).run E.P w= .ok l0 w)∧l0≤h0:=by
  cases lo with
  | none=>
    cases KK with
    | some _=>exact UZ.elim
    | none=>simp at Y4;subst Y4;exact ⟨fun w=>rfl,by omega⟩
  | some v=>
    cases KK with
    | none=>exact UZ.elim
    | some v'=>
      have:=fun code=>vv (E:=E) Y4 (show VR φ v v' from UZ) (Nat.le_refl _) code
      exact ⟨(this _).1,(this .index).2⟩
 refine ⟨fun w=>?_,hl.2,hh.2,hm.2.1,hm.2.2⟩
 rw[Bf,Sem.run_bind,hm.1 w,Result.andThen_ok,Sem.run_bind,hh.1 w,Result.andThen_ok,Sem.run_bind,hl.1 w]
 rfl
theorem ud (b o n:Nat):(⟨b,o,none⟩:Addr).add n=⟨b,o+n,none⟩:=Addr.add_mid b o n
theorem KL {φ:Ph} {t:TypeId} {x v:AV} {lo hi mx:Option AV} (e:fK E t x lo hi mx=some v) {x':Value} {KK FN DE:Option Value}
 (hx:VR φ x x') (UZ:KJ φ lo KK) (U0:KJ φ hi FN) (Vn:KJ φ mx DE):∃v',VR φ v v'∧∀w,(Instr.sliceAt t x' KK FN DE).run E.P w= .ok v' w:=by
 unfold fK at e
 split at e
 ·
  rename_i n elem i o hu
  cases hx with
  | @ptr _ l _ hφ=>
  split at e
  · rename_i l0 h0 m0 size hb hs
    simp at e;subst e
    obtain ⟨hr,h1,h2,h3,h4⟩:=px (E:=E) hb UZ U0 Vn (Nat.le_refl n) false (Nat.le_refl n)
    have hm:(if mx.isNone then n else m0)=m0:=by
     cases mx with
     | none=>simp [h4 rfl]
     | some _=>rfl
    rw[hm] at hr
    refine ⟨_,.slice (if m0=l0 then o else o+l0*size) (h0 - l0) (m0 - l0) false hφ,fun w=>?_⟩
    simp only[Instr.sliceAt,Sem.run_bind,run_underlying hu,Result.andThen_ok,Instr.sureAddr,Sem.run_pure,hr w,eC hs,gK,Bool.false_eq_true,if_false]
    by_cases hml:m0=l0
    · simp [hml]
    · simp only[hml,if_false,ud];rw[Nat.add_assoc]
  · simp at e
 ·
  rename_i s hu
  split at e
  · rename_i l0 h0 m0 hb
    simp at e;subst e
    generalize hs:s=s0 at hx hb
    cases hx with
    | str s'=>
    subst hs
    have e1:s'.size=s'.data.toList.length:=by cases s';rfl
    cases DE with
    | some _=>exact Vn.elim
    | none=>
    obtain ⟨hr,h1,h2,h3,h4⟩:=px (E:=E) (mx:=none) (DE:=none) hb UZ U0 trivial (Nat.le_refl _) false (Nat.le_refl _)
    refine ⟨.string (s'.extract l0 h0),?_,fun w=>?_⟩
    · have:=VR.str (φ:=φ) (s'.extract l0 h0)
      have e2:(s'.extract l0 h0).data.toList=(s'.data.toList.drop l0).take (h0 - l0):=by
       exact Lib.extract_data s' l0 h0
      rw[e2] at this;exact this
    · have Ic:=hr w
      rw[←e1] at Ic
      simp only[Instr.sliceAt,Instr.slice,Sem.run_bind,run_underlying hu,Result.andThen_ok,Option.isSome_none,Bool.false_eq_true,if_false,Ic,Sem.run_pure]
  · simp at e
 ·
  rename_i elem hu
  cases hx
  split at e
  · rename_i r size hb hs
    simp at e;subst e
    obtain ⟨l0,h0,m0⟩:=r
    obtain ⟨hr,h1,h2,h3,h4⟩:=px (E:=E) hb UZ U0 Vn (Nat.le_refl _) true (Nat.le_refl _)
    have hm:(if mx.isNone then 0 else m0)=0:=by split<;>omega
    rw[hm] at hr
    refine ⟨_,.aP,fun w=>?_⟩
    obtain rfl:l0=0:=by omega
    obtain rfl:h0=0:=by omega
    simp only[Instr.sliceAt,Instr.slice,Sem.run_bind,run_underlying hu,Result.andThen_ok,hr w,eC hs,if_true,Sem.run_pure]
  · simp at e
 · rename_i elem i o len cap op hu
   cases hx with
   | @slice _ l _ _ _ _ hφ=>
   split at e
   · rename_i hlc
     split at e
     · rename_i l0 h0 m0 size hb hs
       have Y5:cap≤gK op cap l.iX:=by unfold gK;split<;>omega
       obtain ⟨hr,h1,h2,h3,h4⟩:=px (E:=E) hb UZ U0 Vn Y5 true hlc
       have run:∀w,(Instr.sliceAt t (.slice (some ⟨l.eg,l.off+o,none⟩) len (gK op cap l.iX)) KK FN DE).run E.P w=
        .ok (.slice (if (if mx.isNone then gK op cap l.iX else m0)=l0 then some ⟨l.eg,l.off+o,none⟩ else some ⟨l.eg,l.off+o+l0*size,none⟩) (h0 - l0) ((if mx.isNone then gK op cap l.iX else m0) - l0)) w:=fun w=>by
        simp only[Instr.sliceAt,Instr.slice,Sem.run_bind,run_underlying hu,Result.andThen_ok,hr w,eC hs,Sem.run_pure,Option.map_some,ud]
       split at e
       · rename_i hml
         split at e
         · rename_i qb
           have hmn:mx.isNone=true:=by simp at qb;simpa using qb.2
           simp only[Option.some.injEq] at e;subst e
           have e0:h0 - l0=0:=by omega
           rw[e0] at run
           by_cases hq:(if mx.isNone then gK op cap l.iX else m0)=l0
           · exact ⟨_,.ff _ _,fun w=>by rw[run w,if_pos hq]⟩
           · exact ⟨_,.ff _ _,fun w=>by rw[run w,if_neg hq]⟩
         · rename_i qb
           simp at e;subst e
           have hcm:(if mx.isNone then gK op cap l.iX else m0)=m0:=by
            cases hmn:mx with
            | none=>subst hmn;simp at qb;subst qb;simp [gK,h4 rfl]
            | some _=>rfl
           rw[hcm,if_pos hml] at run
           exact ⟨_,.slice o (h0 - l0) (m0 - l0) false hφ,run⟩
       · rename_i hml
         simp only[Option.some.injEq] at e;subst e
         have eF:¬(if mx.isNone then gK op cap l.iX else m0)=l0:=by
          split
          · rename_i hmn;have:=h4 (by simpa using hmn);omega
          · exact hml
         rw[if_neg eF,Nat.add_assoc] at run
         refine ⟨_,?_,run⟩
         have:=VR.slice (φ:=φ) (o+l0*size) (h0 - l0) (m0 - l0) (op&&mx.isNone) hφ
         have e2:gK (op&&mx.isNone) (m0 - l0) l.iX=(if mx.isNone then gK op cap l.iX else m0) - l0:=by
          cases hmn:mx with
          | none=>
            have h5:=h4 hmn
            cases op with
            | true=>simp [gK];omega
            | false=>simp [gK];omega
          | some _=>simp [gK]
         rw[e2] at this;exact this
     · simp at e
   · simp at e
 · simp at e
end Go.Ab
end
section
namespace Go.Ab
variable {E:Env}
theorem qe:∀(l:List Value) (k off:Nat) (C:Array Value),(l.zipIdx k).foldl (fun cs (x:Value×Nat)=>cs.setIfInBounds (off+x.2) x.1) C=kA C (off+k) l
 | [],_,_,_=>rfl
 | v::vs,k,off,C=>by
   rw[List.zipIdx_cons,List.foldl_cons,qe vs (k+1) off,kA,Nat.add_assoc]
theorem LR.setFrom {φ:Ph}:∀{vs:List AV} {qX:List Value} (_:LR φ vs qX) {cs:List AV} {C:Array Value} (_:LR φ cs C.toList) (o:Nat),LR φ (Ab.setFrom cs o vs) (kA C o qX).toList
 | [],qX,hv,cs,C,hc,o=>by rw[hv.gE];exact hc
 | v::vs,qX,hv,cs,C,hc,o=>by
   obtain ⟨y,ys,rfl,hy,uG⟩:=hv.cu
   rw[Ab.setFrom,kA]
   refine LR.setFrom uG ?_ (o+1)
   rw[Array.toList_setIfInBounds]
   exact hc.set hy o
def PR (φ:Ph) (ps:List (Nat×AV)) (qs:List (Nat×Value)):Prop:=ps.length=qs.length∧∀(i:Nat) (x:Nat×AV) (y:Nat×Value),ps[i]? =some x→qs[i]? =some y→x.1=y.1∧VR φ x.2 y.2
theorem PR.cu {φ:Ph} {x:Nat×AV} {xs:List (Nat×AV)} {ys:List (Nat×Value)} (h:PR φ (x::xs) ys):∃y yz,ys=y::yz∧(x.1=y.1∧VR φ x.2 y.2)∧PR φ xs yz:=by
 obtain ⟨hl,hv⟩:=h
 cases ys with
 | nil=>simp at hl
 | cons y ys=>exact ⟨y,ys,rfl,hv 0 x y (by simp) (by simp),by simpa using hl,fun i a b ha hb=>hv (i+1) a b (by simpa using ha) (by simpa using hb)⟩
theorem yI {φ:Ph} (hg:GL E φ) {ts:List AV} {a:Act} (ht:LR φ ts a.tmps.toList):∀{l:List (Nat×Operand)} {r:List (Nat×AV)} (_:kt E ts l=some r),PR φ r (l.map fun (i,x)=>(i,a.eval x))
 | [],r,h=>by simp [kt] at h;subst h;exact ⟨rfl,fun i x y hx _=>by simp at hx⟩
 | (i,o)::rest,r,h=>by
   simp only[kt] at h
   cases hv:eA E ts o with
   | none=>simp [hv] at h
   | some v=>
     simp only[hv] at h
     cases hr:kt E ts rest with
     | none=>simp [hr] at h
     | some l=>
       simp only[hr,Option.some.injEq] at h;subst h
       obtain ⟨h1,h2⟩:=yI hg ht hr
       refine ⟨by simpa using h1,fun j x y hx hy=>?_⟩
       cases j with
       | zero=>simp at hx hy;subst hx;subst hy;exact ⟨rfl,nH hg ht hv⟩
       | succ j=>simp at hx;exact h2 j x y hx (by simpa using hy)
theorem ue {φ:Ph} {place:Nat→Option (Nat×Nat)}:∀{ps:List (Nat×AV)} {qs:List (Nat×Value)} (_:PR φ ps qs) {cs iW:List AV} {C:Array Value} (_:LR φ cs C.toList) (_:rV place cs ps=some iW),
 ∃C',Instr.fill place C qs=some C'∧LR φ iW C'.toList
 | [],qs,hp,cs,iW,C,hc,h=>by
   cases qs with
   | nil=>simp [rV] at h;subst h;exact ⟨C,rfl,hc⟩
   | cons q qs=>simp [PR] at hp
 | (i,v)::rest,qs,hp,cs,iW,C,hc,h=>by
   obtain ⟨⟨j,v'⟩,qs',rfl,⟨he,hv⟩,oF⟩:=hp.cu
   simp only at he hv;subst he
   simp only[rV] at h
   simp only[Instr.fill]
   cases OI:place i with
   | none=>simp [OI] at h
   | some x=>
     obtain ⟨off,size⟩:=x
     simp only[OI] at h ⊢
     split at h
     · rename_i KM
       have QL:=hv.cells
       have hl:v'.cells.size=size:=by have:=QL.1;simp at this;omega
       have P_:C.size=cs.length:=by have:=hc.1;simp at this;omega
       have FK:(decide (v'.cells.size≠size)||decide (off+v'.cells.size>C.size))=false:=by
        simp only[Bool.or_eq_false_iff,decide_eq_false_iff_not];omega
       simp only[FK,Bool.false_eq_true,if_false]
       have ab0:(v'.cells.zipIdx.foldl (fun cs (x:Value×Nat)=>cs.setIfInBounds (off+x.2) x.1) C)=kA C off v'.cells.toList:=by
        rw[←Array.foldl_toList]
        have:=qe v'.cells.toList 0 off C
        simpa using this
       rw[ab0]
       exact ue oF (LR.setFrom QL hc off) h
     · simp at h
theorem KN {φ:Ph} {t:TypeId} {ps:List (Nat×AV)} {v:AV} (h:FE E t ps=some v) {qs:Array (Nat×Value)} (hp:PR φ ps qs.toList):
 ∃v',VR φ v v'∧∀w,(Instr.build t qs).run E.P w= .ok v' w:=by
 unfold FE at h
 split at h
 · simp at h
 rename_i z hz
 obtain ⟨z',yA,jO⟩:=iJ hz
 split at h
 · rename_i fs hu
   split at h
   · simp at h
   rename_i pl OI
   split at h
   · rename_i cs hf
     simp at h;subst h
     have Y6:∀w,(fs.mapM fun f=>do pure (f.offset,←sizeOf f.type):Sem (Array (Nat×Nat))).run E.P w= .ok pl.toArray w:=by
      intro w
      have key:∀(l:List Field) (r:List (Nat×Nat)),eH (fun f=>match ch E f.type with | some n=>some (f.offset,n) | none=>none) l=some r→
       (l.mapM fun f=>do pure (f.offset,←sizeOf f.type):Sem (List (Nat×Nat))).run E.P w= .ok r w:=by
       intro l
       induction l with
       | nil=>intro r hr;simp [eH] at hr;subst hr;rfl
       | cons f l ih=>
         intro r hr
         simp only[eH] at hr
         cases hs:ch E f.type with
         | none=>simp [hs] at hr
         | some n=>
           simp only[hs] at hr
           cases hm:eH (fun f=>match ch E f.type with | some n=>some (f.offset,n) | none=>none) l with
           | none=>simp [hm] at hr
           | some ys=>
             simp only[hm,Option.some.injEq] at hr;subst hr
             simp only[List.mapM_cons,Sem.run_bind,eC hs,Result.andThen_ok,Sem.run_pure,ih ys hm]
      have:=key fs.toList pl OI
      have hh:(fs.mapM fun f=>do pure (f.offset,←sizeOf f.type):Sem (Array (Nat×Nat)))=(do pure (←(fs.toList.mapM fun f=>do pure (f.offset,←sizeOf f.type):Sem (List (Nat×Nat)))).toArray):=by
       rw[Array.mapM_eq_mapM_toList];rfl
      rw[hh,Sem.run_bind,this];rfl
     obtain ⟨C',zB,Bg⟩:=ue (place:=(pl[·]?)) hp (cs:=z.cells) (C:=z'.cells) (yA φ).cells hf
     refine ⟨.agg C',by have:=VR.OF Bg;simpa using this,fun w=>?_⟩
     simp only[Instr.build,Sem.run_bind,jO,Result.andThen_ok,run_underlying hu,Y6 w]
     simp [zB]
   · simp at h
 · rename_i n elem hu
   split at h
   · simp at h
   rename_i n hn
   split at h
   · rename_i cs hf
     simp at h;subst h
     obtain ⟨C',zB,Bg⟩:=ue (place:=fun i=>some (i*n,n)) hp (cs:=z.cells) (C:=z'.cells) (yA φ).cells hf
     refine ⟨.agg C',by have:=VR.OF Bg;simpa using this,fun w=>?_⟩
     simp [Instr.build,Sem.run_bind,jO,run_underlying hu,eC hn,zB]
   · simp at h
 · simp at h
theorem Ie {φ:Ph}:∀{l:List AV} {x v:AV} (_:KA x l=some v) {x':Value} (_:VR φ x x') {l':List Value} (_:LR φ l l'),∃v',VR φ v v'∧∀w,(l'.foldlM Builtin.max2 x').run E.P w= .ok v' w
 | [],x,v,h,x',hx,l',hl=>by
   rw[hl.gE]
   cases x<;>simp [KA] at h
   subst h;exact ⟨x',hx,fun w=>rfl⟩
 | y::ys,x,v,h,x',hx,l',hl=>by
   obtain ⟨y',yz,rfl,hy,uG⟩:=hl.cu
   cases x<;>(try (simp [KA] at h;done))
   cases y<;>(try (simp [KA] at h;done))
   cases hx;cases hy
   simp only[KA] at h
   obtain ⟨v',hv,hr⟩:=Ie h (.int _ _) uG
   refine ⟨v',hv,fun w=>?_⟩
   simp only[List.foldlM_cons,Builtin.max2,Sem.run_bind,Sem.run_pure,Result.andThen_ok,hr w]
theorem Ig {φ:Ph}:∀{l:List AV} {x v:AV} (_:KC x l=some v) {x':Value} (_:VR φ x x') {l':List Value} (_:LR φ l l'),∃v',VR φ v v'∧∀w,(l'.foldlM Builtin.min2 x').run E.P w= .ok v' w
 | [],x,v,h,x',hx,l',hl=>by
   rw[hl.gE]
   cases x<;>simp [KC] at h
   subst h;exact ⟨x',hx,fun w=>rfl⟩
 | y::ys,x,v,h,x',hx,l',hl=>by
   obtain ⟨y',yz,rfl,hy,uG⟩:=hl.cu
   cases x<;>(try (simp [KC] at h;done))
   cases y<;>(try (simp [KC] at h;done))
   cases hx;cases hy
   simp only[KC] at h
   obtain ⟨v',hv,hr⟩:=Ig h (.int _ _) uG
   refine ⟨v',hv,fun w=>?_⟩
   simp only[List.foldlM_cons,Builtin.min2,Sem.run_bind,Sem.run_pure,Result.andThen_ok,hr w]
theorem map_toArray (f:Operand→Value) (l:Array Operand):l.map f=(l.toList.map f).toArray:=by apply Array.ext';simp
def XI (E:Env):Prop:=∀f e,E.mT f=some e→∀vs r,e vs=some r→∀φ (qX:List Value),LR φ vs qX→
 ∃r',VR φ r r'∧∀w,(callFunc f qX.toArray).run E.P w= .ok (.value r') w
theorem fp {s:Sem Value} {v:Value} {P:Program} {w w':World} (h:s.run P w= .ok v w'):(do pure (.value (←s)):Sem Next).run P w= .ok (.value v) w':=by
 rw[Sem.run_bind,h];rfl
theorem FP {φ:Ph} (hg:GL E φ) {ts:List AV} {a:Act} (ht:LR φ ts a.tmps.toList) {o:Option Operand} {r:Option AV} (h:mX E ts o=some r):KJ φ r (o.map a.eval):=by
 cases o with
 | none=>simp [mX] at h;subst h;trivial
 | some o=>
   simp only[mX] at h
   split at h
   · rename_i v hv;simp at h;subst h;exact nH hg ht hv
   · simp at h
theorem sF {P:Program} {t:TypeId} {d:TypeDesc} (hu:P.underlying t=some d) (hd:∀m,d= .interface m→False) (v:Value) (xT:TypeId) (ok:Bool) (w:World):
 (Instr.typeAssert (.iface t v) xT t ok).run P w= .ok (if ok then .tuple #[v,.bool true] else v) w:=by
 rw[Instr.typeAssert,Sem.run_bind,run_underlying hu]
 cases d<;>first | (exact (hd _ rfl).elim) | (simp;done)
theorem Ax {P:Program} {t u:TypeId} {d:TypeDesc} (hu:P.underlying t=some d) (hd:∀m,d= .interface m→False) (v:Value) (xT:TypeId) (eF:u≠t) {z:Value} (w:World) (hz:(zeroValue t).run P w= .ok z w):
 (Instr.typeAssert (.iface u v) xT t true).run P w= .ok (.tuple #[z,.bool false]) w:=by
 rw[Instr.typeAssert,Sem.run_bind,run_underlying hu]
 cases d<;>first | (exact (hd _ rfl).elim) | (simp [eF,hz];done)
theorem Bh {P:Program} {t:TypeId} {d:TypeDesc} (hu:P.underlying t=some d) (hd:∀m,d= .interface m→False) (xT:TypeId) {z:Value} (w:World) (hz:(zeroValue t).run P w= .ok z w):
 (Instr.typeAssert .nilIface xT t true).run P w= .ok (.tuple #[z,.bool false]) w:=by
 rw[Instr.typeAssert,Sem.run_bind,run_underlying hu]
 cases d<;>first | (exact (hd _ rfl).elim) | (simp [hz];done)
set_option maxHeartbeats 1000000 in
theorem zC (ab1:XI E) {φ:Ph} (hg:GL E φ) {ts:List AV} {a:Act} (ht:LR φ ts a.tmps.toList) {o:Oper} {v:AV} (h:bE E ts o.op=some v):
 ∃v',VR φ v v'∧∀w,(execOp a.eval o).run E.P w= .ok (.value v') w:=by
 have ev:∀{x:Operand} {v:AV},eA E ts x=some v→VR φ v (a.eval x):=fun h=>nH hg ht h
 unfold execOp
 generalize o.op=op at h ⊢
 unfold bE at h
 split at h
 · exact ⟨_,ev h,fun w=>rfl⟩
 · exact ⟨_,ev h,fun w=>rfl⟩
 ·
  split at h
  · rename_i hc
    have:=ev hc
    generalize lA:a.eval _=cv at this
    cases this
    exact ⟨_,ev h,fun w=>by simp [lA,asBool]⟩
  · rename_i hc
    have:=ev hc
    generalize lA:a.eval _=cv at this
    cases this
    exact ⟨_,ev h,fun w=>by simp [lA,asBool]⟩
  · simp at h
 ·
  rename_i t parts
  split at h
  · rename_i ps Qa
    have hp:=yI hg ht Qa
    obtain ⟨v',hv,hr⟩:=KN (φ:=φ) h (qs:=parts.map fun (i,x)=>(i,a.eval x)) (by simpa using hp)
    exact ⟨v',hv,fun w=>fp (hr w)⟩
  · simp at h
 ·
  split at h<;>(try (simp at h;done))
  all_goals
   rename_i hx
   have:=ev hx
   generalize lA:a.eval _=cv at this
   cases this
   simp only[Option.some.injEq] at h;subst h
   first
    | exact ⟨_,.ptr _ ‹_›,fun w=>by simp [lA]⟩
    | exact ⟨_,.map ‹_›,fun w=>by simp [lA]⟩
    | exact ⟨_,.slice _ _ _ _ ‹_›,fun w=>by simp [lA]⟩
    | exact ⟨_,.func _ _ _ _ _ ‹_› ‹_› ‹_› ‹_›,fun w=>by simp [lA]⟩
 ·
  split at h
  · rename_i hx hy
    obtain ⟨v',hv,hr⟩:=QK h (ev hx) (ev hy)
    exact ⟨v',hv,fun w=>fp (hr w)⟩
  · simp at h
 ·
  split at h
  · rename_i hx
    obtain ⟨v',hv,hr⟩:=Vm (E:=E) h (ev hx)
    exact ⟨v',hv,fun w=>fp (hr w)⟩
  · simp at h
 ·
  split at h
  · rename_i hs hd hx
    have:=ev hx
    generalize lA:a.eval _=cv at this
    cases this
    simp at h;subst h
    refine ⟨_,.int _ _,fun w=>fp ?_⟩
    simp [lA,convert,run_underlying hs,run_underlying hd,Conv.intToInt]
  · rename_i d s hs hd hx
    have:=ev hx
    generalize lA:a.eval _=cv at this
    simp at h;subst h
    generalize KO:s=s0 at this
    cases this
    subst KO
    refine ⟨_,.str _,fun w=>fp ?_⟩
    simp [lA,convert,run_underlying hs,run_underlying hd]
  · rename_i d k n hs hd hx
    have:=ev hx
    generalize lA:a.eval _=cv at this
    cases this
    unfold MJ at h
    split at h
    · rename_i h0
      simp at h;subst h
      have he:Utf8.encode n=⟨#[UInt8.ofNat n.toNat]⟩:=by
       have hv:Utf8.valid n=true:=by simp [Utf8.valid];omega
       have h1:n.toNat<0x80:=by omega
       simp [Utf8.encode,hv,h1]
      refine ⟨.string ⟨#[UInt8.ofNat n.toNat]⟩,.str ⟨#[UInt8.ofNat n.toNat]⟩,fun w=>fp ?_⟩
      rw[←he]
      cases d<;>simp [lA,convert,run_underlying hs,run_underlying hd,Conv.intToString]
    · simp at h
  · simp at h
 ·
  split at h
  · simp at h
  · rename_i d v0 hn hu hx
    simp at h;subst h
    refine ⟨_,.iface _ _ _ (ev hx),fun w=>fp ?_⟩
    rw[Instr.makeInterface,Sem.run_bind,run_underlying hu]
    cases d<;>first | (exact (hn _ rfl).elim) | rfl
  · simp at h
 ·
  rename_i f first captured
  split at h
  · rename_i ha hb
    simp at h;subst h
    have h1:=iI hg ht ha
    have h2:=iI hg ht hb
    refine ⟨.func (.func f) (first.map a.eval) (captured.map a.eval),?_,fun w=>fp rfl⟩
    rw[map_toArray,map_toArray]
    exact VR.QC f h1 h2
  · simp at h
 ·
  split at h
  · rename_i hx hl hh hm
    obtain ⟨v',hv,hr⟩:=KL h (ev hx) (FP hg ht hl) (FP hg ht hh) (FP hg ht hm)
    exact ⟨v',hv,fun w=>fp (hr w)⟩
  · simp at h
 ·
  split at h
  · rename_i fd i o0 hf hx
    split at h
    · rename_i n hn
      split at h
      · simp at h
      · rename_i Qb
        simp at h;subst h
        have:=ev hx
        generalize lA:a.eval _=cv at this
        cases this with
        | @ptr _ l _ hφ=>
        refine ⟨_,.ptr _ hφ,fun w=>fp ?_⟩
        unfold mY at hf
        split at hf
        · rename_i fs hu
          simp [lA,Instr.fieldAt,run_underlying hu,hf,Instr.sureAddr,fieldPlace,eC hn,Qb,ud,Nat.add_assoc]
        · simp at hf
    · simp at h
  · simp at h
 ·
  split at h
  · rename_i fd cs hf hx
    have:=ev hx
    generalize lA:a.eval _=cv at this
    obtain ⟨iW,rfl,Bg⟩:=this.ke
    obtain ⟨v',hv,hr⟩:=ot Bg h
    refine ⟨v',hv,fun w=>fp ?_⟩
    unfold mY at hf
    split at hf
    · rename_i fs hu
      have:=hr w
      simp [lA,Instr.field,run_underlying hu,hf,asAgg] at this ⊢
      exact this
    · simp at hf
  · simp at h
 ·
  split at h
  · rename_i len elem i o0 k n hu hx hi
    split at h
    · rename_i size hs
      split at h
      · rename_i hb
        simp at h;subst h
        have h1:=ev hx
        have h2:=ev hi
        generalize lA:a.eval _=cv at h1
        generalize Y7:a.eval _=cw at h2
        cases h1 with
        | @ptr _ l _ hφ=>
        cases h2
        refine ⟨_,.ptr _ hφ,fun w=>fp ?_⟩
        simp [lA,Y7,Instr.indexAt,asIntOf,run_underlying hu,Instr.sureAddr,hb,eC hs,ud,Nat.add_assoc]
      · simp at h
    · simp at h
  · rename_i elem i o0 len cap op k n hu hx hi
    split at h
    · rename_i size hs
      split at h
      · rename_i hb
        simp at h;subst h
        have h1:=ev hx
        have h2:=ev hi
        generalize lA:a.eval _=cv at h1
        generalize Y7:a.eval _=cw at h2
        cases h1 with
        | @slice _ l _ _ _ _ hφ=>
        cases h2
        refine ⟨_,.ptr _ hφ,fun w=>fp ?_⟩
        simp [lA,Y7,Instr.indexAt,asIntOf,run_underlying hu,hb,eC hs,ud,Nat.add_assoc]
      · simp at h
    · simp at h
  · simp at h
 ·
  split at h
  · rename_i len elem cs k n hu hx hi
    split at h
    · rename_i size hs
      split at h
      · rename_i hb
        have h1:=ev hx
        have h2:=ev hi
        generalize lA:a.eval _=cv at h1
        generalize Y7:a.eval _=cw at h2
        obtain ⟨iW,rfl,Bg⟩:=h1.ke
        cases h2
        obtain ⟨v',hv,hr⟩:=ot Bg h
        refine ⟨v',hv,fun w=>fp ?_⟩
        have:=hr w
        simp [lA,Y7,Instr.index,asIntOf,run_underlying hu,hb,eC hs] at this ⊢
        exact this
      · simp at h
    · simp at h
  · rename_i s k n hu hx hi
    split at h
    · rename_i hn
      split at h
      · rename_i b hb
        simp at h;subst h
        have h1:=ev hx
        have h2:=ev hi
        generalize lA:a.eval _=cv at h1
        generalize Y7:a.eval _=cw at h2
        generalize KO:s=s0 at h1
        cases h1 with
        | str s'=>
        subst KO
        cases h2
        refine ⟨_,.int _ _,fun w=>fp ?_⟩
        have U1:s'[n.toNat]? =some b:=by
         have:s'.data[n.toNat]? =some b:=by simpa using hb
         rw[←this];rfl
        simp [lA,Y7,Instr.index,asIntOf,run_underlying hu,hn,U1]
      · simp at h
    · simp at h
  · simp at h
 ·
  split at h
  · rename_i vs hx
    have h1:=ev hx
    generalize lA:a.eval _=cv at h1
    obtain ⟨qX,rfl,Bg⟩:=h1.Eg
    obtain ⟨y,hy,hv⟩:=Bg.get h
    refine ⟨y,hv,fun w=>fp ?_⟩
    simp at hy
    simp [lA,Instr.extract,hy]
  · simp at h
 ·
  split at h
  · simp at h
  · rename_i d t v0 hn hu hx
    have h1:=ev hx
    generalize lA:a.eval _=cv at h1
    cases h1 with
    | iface _ _ v1 hv1=>
    split at h
    · rename_i hta
      subst hta
      simp at h;subst h
      split
      · rename_i js
        refine ⟨.tuple #[v1,.bool true],VR.tuple' (iW:=[v1,.bool true]) (.cons hv1 (.cons (.bool true) (.nil φ))),fun w=>fp ?_⟩
        rw[lA,sF hu hn,js];rfl
      · rename_i js
        refine ⟨v1,hv1,fun w=>fp ?_⟩
        rw[lA,sF hu hn];simp [js]
    · rename_i hta
      split at h
      · rename_i js
        split at h
        · rename_i z hz
          simp at h;subst h
          obtain ⟨z',yA,jO⟩:=iJ hz
          refine ⟨.tuple #[z',.bool false],VR.tuple' (iW:=[z',.bool false]) (.cons (yA φ) (.cons (.bool false) (.nil φ))),fun w=>fp ?_⟩
          rw[lA,js];exact Ax hu hn _ _ hta w (jO w)
        · simp at h
      · simp at h
  · rename_i d hn hu hx
    have h1:=ev hx
    generalize lA:a.eval _=cv at h1
    cases h1
    split at h
    · rename_i js
      split at h
      · rename_i z hz
        simp at h;subst h
        obtain ⟨z',yA,jO⟩:=iJ hz
        refine ⟨.tuple #[z',.bool false],VR.tuple' (iW:=[z',.bool false]) (.cons (yA φ) (.cons (.bool false) (.nil φ))),fun w=>fp ?_⟩
        rw[lA,js];exact Bh hu hn _ w (jO w)
      · simp at h
    · simp at h
  · simp at h
 ·
  split at h
  · rename_i t v0 Qc Ih
    have hl:=iI hg ht Ih
    obtain ⟨y,ys,uG,hy,FQ⟩:=hl.cu
    rw[FQ.gE] at uG
    have Bi:∀(args:Array Operand),args.toList.map a.eval=[y]→args.map a.eval= #[y]:=fun args e=>by rw[map_toArray,e]
    have h0:=Bi _ uG
    split at h<;>(try (simp at h;done))
    all_goals
     rename_i hu
     simp only[Option.some.injEq] at h;subst h
    · generalize KO:AV.str _=s0 at hy
      cases hy<;>cases KO
      rename_i s'
      refine ⟨_,.int _ _,fun w=>?_⟩
      simp [resolve,invoke,builtin,h0,Builtin.len_,Qc,run_underlying hu,goInt]
      try rfl
    · refine ⟨_,.int _ _,fun w=>?_⟩
      simp [resolve,invoke,builtin,h0,Builtin.len_,Qc,run_underlying hu,goInt]
    · cases hy
      refine ⟨_,.int _ _,fun w=>?_⟩
      simp [resolve,invoke,builtin,h0,Builtin.len_,Qc,run_underlying hu,goInt]
    · cases hy
      refine ⟨_,.int _ _,fun w=>?_⟩
      simp [resolve,invoke,builtin,h0,Builtin.len_,Qc,run_underlying hu,goInt]
    · cases hy
      refine ⟨_,.int _ _,fun w=>?_⟩
      simp [resolve,invoke,builtin,h0,Builtin.len_,Qc,run_underlying hu,goInt]
    · cases hy
      refine ⟨_,.int _ _,fun w=>?_⟩
      simp [resolve,invoke,builtin,h0,Builtin.len_,Qc,run_underlying hu,goInt]
  · simp at h
 ·
  split at h
  · rename_i t v0 Qc Ih
    have hl:=iI hg ht Ih
    obtain ⟨y,ys,uG,hy,FQ⟩:=hl.cu
    rw[FQ.gE] at uG
    have Bi:∀(args:Array Operand),args.toList.map a.eval=[y]→args.map a.eval= #[y]:=fun args e=>by rw[map_toArray,e]
    have h0:=Bi _ uG
    split at h<;>(try (simp at h;done))
    all_goals
     rename_i hu
     simp only[Option.some.injEq] at h;subst h
    · refine ⟨_,.int _ _,fun w=>?_⟩
      simp [resolve,invoke,builtin,h0,Builtin.cap_,Qc,run_underlying hu,goInt]
    · cases hy
      refine ⟨_,.int _ _,fun w=>?_⟩
      simp [resolve,invoke,builtin,h0,Builtin.cap_,Qc,run_underlying hu,goInt]
    · cases hy
      refine ⟨_,.int _ _,fun w=>?_⟩
      simp [resolve,invoke,builtin,h0,Builtin.cap_,Qc,run_underlying hu,goInt,gK]
  · simp at h
 ·
  rename_i args _
  split at h
  · rename_i x rest Ih
    have hl:=iI hg ht Ih
    obtain ⟨y,ys,uG,hy,oF⟩:=hl.cu
    obtain ⟨v',hv,hr⟩:=Ie (E:=E) h hy oF
    refine ⟨v',hv,fun w=>?_⟩
    have h0:args.map a.eval=(y::ys).toArray:=by rw[map_toArray,uG]
    have:=hr w
    simp [resolve,invoke,builtin,h0,Builtin.max_,this]
  · simp at h
 ·
  rename_i args _
  split at h
  · rename_i x rest Ih
    have hl:=iI hg ht Ih
    obtain ⟨y,ys,uG,hy,oF⟩:=hl.cu
    obtain ⟨v',hv,hr⟩:=Ig (E:=E) h hy oF
    refine ⟨v',hv,fun w=>?_⟩
    have h0:args.map a.eval=(y::ys).toArray:=by rw[map_toArray,uG]
    have:=hr w
    simp [resolve,invoke,builtin,h0,Builtin.min_,this]
  · simp at h
 ·
  rename_i f args _
  split at h
  · rename_i e vs he Ih
    have hl:=iI hg ht Ih
    obtain ⟨r',hr,f'⟩:=ab1 f e he vs v h φ _ hl
    refine ⟨r',hr,fun w=>?_⟩
    have:=f' w
    rw[←map_toArray] at this
    simpa [resolve,Deferred.ofValue,invoke,Act.eval] using this
  · simp at h
 · simp at h
end Go.Ab
end
section
namespace Go.Ab
variable {E:Env}
theorem FR {P:Program} {t:TypeId} {k:IntKind} (hu:P.underlying t=some (.int k)) (b:Bool) (n:Nat) (v:Value) (w:World):
 (Instr.checkKey b (n+1) t v).run P w= .ok () w:=by
 unfold Instr.checkKey
 rw[Sem.run_bind,run_underlying hu]
 rfl
theorem FT {P:Program} {t:TypeId} (hu:P.underlying t=some .string) (b:Bool) (n:Nat) (v:Value) (w:World):
 (Instr.checkKey b (n+1) t v).run P w= .ok () w:=by
 unfold Instr.checkKey
 rw[Sem.run_bind,run_underlying hu]
 rfl
theorem py {φ:Ph} {t:TypeId} {d:TypeDesc} {k:AV} (hu:E.P.underlying t=some d) (hk:j9 E (some d) k=true) {k':Value} (h:VR φ k k') (b:Bool) (n:Nat) (w:World):
 (Instr.checkKey b (n+2) t k').run E.P w= .ok () w:=by
 unfold j9 at hk
 split at hk
 · rename_i fs xs hd
   cases hd
   obtain ⟨AX,rfl,Dx⟩:=h.ke
   unfold Instr.checkKey
   rw[Sem.run_bind,run_underlying hu]
   simp only[Result.andThen_ok]
   have key:∀l:List Field,(l.all fun f=>match E.P.underlying f.type,iE E f.type xs f.offset with
    | some (.int _),some (.int _ _)=>true
    | some .string,some (.str _)=>true
    | _,_=>false)=true→
    (forIn (m:=Sem) l PUnit.unit fun f (_:PUnit)=>if f.name≠ "_" then (do let x←part f.type AX f.offset;Instr.checkKey b (n+1) f.type x;pure (ForInStep.yield PUnit.unit)) else pure (ForInStep.yield PUnit.unit)).run E.P w= .ok PUnit.unit w:=by
    intro l
    induction l with
    | nil=>intro _;rfl
    | cons f l ih=>
      intro ha
      rw[List.all_cons,Bool.and_eq_true] at ha
      obtain ⟨hf,hl⟩:=ha
      have h2:=ih hl
      split at hf
      · rename_i ki kj z e1 e2
        obtain ⟨v',_,hr⟩:=ot Dx e2
        rw[Array.toArray_toList] at hr
        simp only[List.forIn_cons,Sem.run_bind]
        split
        · simp only[Sem.run_bind,hr,Result.andThen_ok,FR e1,Sem.run_pure,h2]
        · simp only[Sem.run_pure,Result.andThen_ok,h2]
      · rename_i z e1 e2
        obtain ⟨v',_,hr⟩:=ot Dx e2
        rw[Array.toArray_toList] at hr
        simp only[List.forIn_cons,Sem.run_bind]
        split
        · simp only[Sem.run_bind,hr,Result.andThen_ok,FT e1,Sem.run_pure,h2]
        · simp only[Sem.run_pure,Result.andThen_ok,h2]
      · cases hf
   have:=key fs.toList hk
   rw[Array.forIn_toList] at this
   first | exact this | (simp only[Sem.run_bind,this];rfl)
 · cases hk
theorem yJ {φ:Ph}:∀{xs ys:List AV} {AX yz:List Value},oA xs ys=true→LR φ xs AX→LR φ ys yz→yz=AX∧(yz.zip AX).all (fun (x,y)=>Instr.sameBits 9999 x y)=true
 | [],[],AX,yz,_,h,h'=>by rw[h.gE,h'.gE];exact ⟨rfl,rfl⟩
 | .int k a::xs,.int j b::ys,AX,yz,e,h,h'=>by
   obtain ⟨x,xs2,rfl,hx,Dx⟩:=h.cu
   obtain ⟨y,ys2,rfl,hy,uG⟩:=h'.cu
   simp only[oA,Bool.and_eq_true,decide_eq_true_eq] at e
   obtain ⟨⟨rfl,rfl⟩,e⟩:=e
   cases hx;cases hy
   obtain ⟨h1,h2⟩:=yJ e Dx uG
   subst h1
   refine ⟨rfl,?_⟩
   rw[List.zip_cons_cons,List.all_cons,h2,Bool.and_true]
   simp [Instr.sameBits]
 | .str a::xs,.str b::ys,AX,yz,e,h,h'=>by
   obtain ⟨x,xs2,rfl,hx,Dx⟩:=h.cu
   obtain ⟨y,ys2,rfl,hy,uG⟩:=h'.cu
   simp only[oA,Bool.and_eq_true,beq_iff_eq] at e
   obtain ⟨rfl,e⟩:=e
   obtain ⟨h1,h2⟩:=yJ e Dx uG
   subst h1
   generalize hq:AV.str a=q at hx hy
   have hxy:y=x:=by
    cases hx with
    | str s1=>
      generalize hr:AV.str s1.data.toList=r at hy
      cases hy with
      | str s2=>
        injection hr with hr
        have:s1.data=s2.data:=Array.toList_inj.1 hr
        cases s1;cases s2;cases this;rfl
      | _=>cases hr
    | _=>cases hq
   subst hxy
   refine ⟨rfl,?_⟩
   rw[List.zip_cons_cons,List.all_cons,h2,Bool.and_true]
   cases hx with
   | str s1=>
     show (s1==s1)=true
     cases s1 with
     | mk d=>show (d==d)=true;simp
   | _=>cases hq
theorem FU {φ:Ph} {xs ys:List AV} (e:oA xs ys=true) {k' j':Value} (h:VR φ (.agg xs) k') (h':VR φ (.agg ys) j'):Instr.sameBits 10000 j' k'=true∧j'=k':=by
 obtain ⟨a,rfl,ha⟩:=h.ke
 obtain ⟨b,rfl,hb⟩:=h'.ke
 obtain ⟨h1,h2⟩:=yJ e ha hb
 have hab:b=a:=by cases b;cases a;simp at h1;subst h1;rfl
 subst hab
 refine ⟨?_,rfl⟩
 rw[Instr.sameBits]
 simp only[beq_self_eq_true,Bool.true_and]
 exact h2
def Vo (φ:Ph) (k j:AV):Prop:=∀{k' j':Value},VR φ k k'→VR φ j j'→Instr.sameBits 10000 j' k'=true∧j'=k'
theorem mF {φ:Ph} {key:TypeId} {k:AV} {k':Value} (h:VR φ k k'):∀{es:List h_} {gF:List MapEntry} (_:H_ φ es gF) {i:Nat} {r:Option (Nat×AV)} (_:findD E key k es i=some r),
 ∃r',(∀w,(Instr.findAsking key k' gF i).run E.P w= .ok r' w)∧(match r,r' with | none,none=>True | some (j,v),some (j',v')=>j=j'∧VR φ v v'∧i≤j∧∃e,es[j - i]? =some e∧Vo φ k e.key | _,_=>False)
 | [],gF,he,i,r,e=>by
   cases gF with
   | nil=>simp [findD] at e;subst e;exact ⟨none,fun w=>rfl,trivial⟩
   | cons _ _=>simp [H_] at he
 | x::es,gF,he,i,r,e=>by
   obtain ⟨hl,hv⟩:=he
   cases gF with
   | nil=>simp at hl
   | cons y ys=>
     have hx:=hv 0 x y (by simp) (by simp)
     simp only[findD] at e
     split at e
     · rename_i heq
       split at e
       · rename_i zs hz _
         split at e
         · rename_i hs
           simp at e;subst e
           refine ⟨some (i,y.val),fun w=>?_,rfl,hx.val,Nat.le_refl _,x,by simp,?_⟩
           · have q:=oE 16 9984 key _ _ true _ _ heq h hx.key w
             simp only[Instr.findAsking,Sem.run_bind,Op.equal]
             rw[show Op.maxDepth=9984+16 from rfl,q]
             rfl
           · intro a b ha hb
             rw[hz] at hb
             exact FU hs ha hb
         · cases e
       · cases e
     · rename_i heq
       obtain ⟨r',h1,h2⟩:=mF h (es:=es) (gF:=ys) ⟨by simpa using hl,fun i a b p q=>hv (i+1) a b (by simpa using p) (by simpa using q)⟩ e
       refine ⟨r',fun w=>?_,?_⟩
       · have q:=oE 16 9984 key _ _ false _ _ heq h hx.key w
         simp only[Instr.findAsking,Sem.run_bind,Op.equal]
         rw[show Op.maxDepth=9984+16 from rfl,q]
         exact h1 w
       · cases r with
         | none=>cases r' with
           | none=>trivial
           | some _=>exact h2
         | some p=>
           obtain ⟨j,v⟩:=p
           cases r' with
           | none=>exact h2
           | some q=>
             obtain ⟨j',v'⟩:=q
             obtain ⟨h3,h4,h5,e',h6,h7⟩:=h2
             refine ⟨h3,h4,by omega,e',?_,h7⟩
             rw[show j - i=(j -(i+1))+1 by omega];simpa using h6
     · cases e
theorem kf {φ:Ph} {key:TypeId} {d:TypeDesc} {k:AV} (hd:E.P.underlying key=some d) (hk:j9 E (some d) k=true) {k':Value} (h:VR φ k k') {gF:List MapEntry} {r':Option (Nat×Value)} {w:World} (hr:(Instr.findAsking key k' gF 0).run E.P w= .ok r' w):
 (Instr.findKey key k' gF).run E.P w= .ok r' w:=by
 unfold j9 at hk
 split at hk
 · rename_i fs xs hdd
   cases hdd
   obtain ⟨AX,rfl,Dx⟩:=h.ke
   rw[Instr.findKey,Sem.run_bind,run_underlying hd]
   simp only[Result.andThen_ok]
   cases gF with
   | nil=>exact hr
   | cons y ys=>
     have:Instr.findNow (.struct fs) (.agg AX) (y::ys) 0=none:=rfl
     rw[this]
     exact hr
 · cases hk
end Go.Ab
end
section
namespace Go.Ab
variable {E:Env}
theorem OK.cells {φ:Ph} {h:aA} {w:World} (ok:OK E φ h w) {i:Nat} {cs:List AV} {e:TypeId} {ro:Bool} (hg:h.get i=some (.cells cs e ro)) {l:Loc} (hl:φ i=some l):
 ∃C e' lo hi,w.heap[l.eg]? =some (.cells C e' (lo,hi))∧CS E φ cs e ro l C e' lo hi:=by
 exact ok.live i _ l hg hl
theorem Ek {φ:Ph} {h:aA} {w:World} (ok:OK E φ h w) {t:TypeId} {av v:AV} {v':Value} (hv:VR φ av v') (e:bk E h t av=some v):
 ∃x',VR φ v x'∧∀w',w'.heap=w.heap→(Instr.loadAt t v').run E.P w'= .ok x' w':=by
 unfold bk at e
 split at e
 · rename_i i o
   cases hv with
   | @ptr _ l _ hφ=>
   split at e
   · rename_i cs el ro hg
     obtain ⟨C,e',lo,hi,hb,hc⟩:=ok.cells hg hφ
     unfold iE at e
     split at e
     · rename_i ha
       split at e
       · rename_i n hn
         split at e
         · rename_i hle
           simp at e;subst e
           obtain ⟨vs,hvl,DF,Bg⟩:=hc.range o n hle
           refine ⟨.agg vs.toArray,VR.OF Bg,fun w' hw'=>?_⟩
           rw[←hw'] at hb
           have Bj:=n9 (P:=E.P) hb (l.off+o) vs DF
           rw[hvl] at Bj
           simp only[Instr.loadAt,Instr.sureAddr,Sem.run_bind,Sem.run_pure,Result.andThen_ok,loadVar,qV ha,if_true,eC hn,Bj]
         · simp at e
       · simp at e
     · rename_i ha
       obtain ⟨y,hy,hr⟩:=hc.val o v e
       refine ⟨y,hr,fun w' hw'=>?_⟩
       rw[←hw'] at hb
       simp only[Instr.loadAt,Instr.sureAddr,Sem.run_bind,Sem.run_pure,Result.andThen_ok,loadVar,qV ha,Bool.false_eq_true,if_false,run_load,cell_of_heap hb,hy]
     · simp at e
   · simp at e
 · simp at e
theorem Ii {P:Program} (l:List Int):∀(vs:List Value) (acc:ByteArray) (w:World),vs=l.map (fun n=>Value.int .u8 n)→
 (forIn vs acc (fun c s=>(match c with | .int .u8 n=>do pure (ForInStep.yield (s.push (UInt8.ofNat n.toNat))) | _=>do stuck "bytesToString: byte expected";pure (ForInStep.yield s):Sem (ForInStep ByteArray)))).run P w= .ok ⟨(acc.data.toList++l.map (fun n=>UInt8.ofNat n.toNat)).toArray⟩ w:=by
 induction l with
 | nil=>intro vs acc w h;simp at h;subst h;simp [List.forIn_nil]
 | cons b l ih=>
   intro vs acc w h
   cases vs with
   | nil=>simp at h
   | cons v vs=>
     simp at h
     obtain ⟨rfl,Ih⟩:=h
     simp only[List.forIn_cons,Sem.run_bind,Sem.run_pure,Result.andThen_ok]
     rw[ih vs _ w Ih]
     simp [ByteArray.push]
theorem El {φ:Ph} {d:TypeDesc} {k j:AV} {r:Bool} (hk:jf (some d) k=true) (e:Ec k j=some r) {k' j':Value} (h:VR φ k k') (h':VR φ j j'):Instr.sameNow d k' j'=some r:=by
 unfold Ec at e
 split at e
 · generalize hs:AV.str _=s at h
   generalize qW:AV.str _=s' at h'
   cases h<;>cases hs
   cases h'<;>cases qW
   simp at e;subst e
   cases d<;>simp [jf] at hk
   rename_i s s'
   simp only[Instr.sameNow]
   congr 1
 · cases h;cases h'
   split at e
   · rename_i yB
     simp at e;subst e;subst yB
     cases d<;>simp [jf] at hk
     simp [Instr.sameNow]
   · simp at e
 · cases h;cases h'
   simp at e;subst e
   cases d<;>simp [jf] at hk
   simp [Instr.sameNow]
 · simp at e
theorem qf {φ:Ph} {d:TypeDesc} {k:AV} {k':Value} (hk:jf (some d) k=true) (h:VR φ k k'):∀{es:List h_} {gF:List MapEntry} (_:H_ φ es gF) {i:Nat} {r:Option (Nat×AV)} (_:sv k es i=some r),
 ∃r',Instr.findNow d k' gF i=some r'∧(match r,r' with | none,none=>True | some (j,v),some (j',v')=>j=j'∧VR φ v v'∧i≤j∧∃e,es[j - i]? =some e∧Ec k e.key=some true | _,_=>False)
 | [],gF,he,i,r,e=>by
   cases gF with
   | nil=>simp [sv] at e;subst e;exact ⟨none,rfl,trivial⟩
   | cons _ _=>simp [H_] at he
 | x::es,gF,he,i,r,e=>by
   obtain ⟨hl,hv⟩:=he
   cases gF with
   | nil=>simp at hl
   | cons y ys=>
     have hx:=hv 0 x y (by simp) (by simp)
     simp only[sv] at e
     split at e
     · rename_i heq
       simp at e;subst e
       refine ⟨some (i,y.val),?_,rfl,hx.val,Nat.le_refl _,x,by simp,heq⟩
       simp [Instr.findNow,El hk heq h hx.key]
     · rename_i heq
       obtain ⟨r',h1,h2⟩:=qf hk h (es:=es) (gF:=ys) ⟨by simpa using hl,fun i a b p q=>hv (i+1) a b (by simpa using p) (by simpa using q)⟩ e
       refine ⟨r',?_,?_⟩
       · simp [Instr.findNow,El hk heq h hx.key,h1]
       · cases r with
         | none=>cases r' with
           | none=>trivial
           | some _=>exact h2
         | some p=>
           obtain ⟨j,v⟩:=p
           cases r' with
           | none=>exact h2
           | some q=>
             obtain ⟨j',v'⟩:=q
             obtain ⟨h3,h4,h5,e',h6,h7⟩:=h2
             refine ⟨h3,h4,by omega,e',?_,h7⟩
             rw[show j - i=(j -(i+1))+1 by omega];simpa using h6
     · simp at e
theorem qY {P:Program} {t:TypeId} {d:TypeDesc} (hu:P.underlying t=some d) {k:AV} (hk:jf (some d) k=true) {φ:Ph} {k':Value} (h:VR φ k k') (b:Bool) (n:Nat) (w:World):
 (Instr.checkKey b (n+1) t k').run P w= .ok () w:=by
 unfold Instr.checkKey
 rw[Sem.run_bind,run_underlying hu]
 cases d<;>simp [jf] at hk<;>cases h<;>first | rfl | (simp [jf] at hk)
theorem wG {P:Program} {w:World} {a:Addr} {n:Nat} (l:List Int) (hl:(loadCells a n).run P w= .ok ((l.map (fun n=>Value.int .u8 n)).toArray) w) (c:Nat):
 (Conv.bytesToString (.slice (some a) n c)).run P w= .ok (.string ⟨(l.map (fun n=>UInt8.ofNat n.toNat)).toArray⟩) w:=by
 unfold Conv.bytesToString
 simp only[Sem.run_bind,hl,Result.andThen_ok]
 have:=Ii (P:=P) l (l.map (fun n=>Value.int .u8 n)) ByteArray.empty w rfl
 have e:forIn (m:=Sem) (l.map (fun n=>Value.int .u8 n)).toArray ByteArray.empty (fun c s=>(match c with | .int .u8 n=>do pure (ForInStep.yield (s.push (UInt8.ofNat n.toNat))) | _=>do stuck "bytesToString: byte expected";pure (ForInStep.yield s):Sem (ForInStep ByteArray)))
  =forIn (m:=Sem) (l.map (fun n=>Value.int .u8 n)) ByteArray.empty (fun c s=>(match c with | .int .u8 n=>do pure (ForInStep.yield (s.push (UInt8.ofNat n.toNat))) | _=>do stuck "bytesToString: byte expected";pure (ForInStep.yield s):Sem (ForInStep ByteArray))):=by
  rw[←Array.forIn_toList]
 rw[←e] at this
 refine (congrArg (fun r=>Result.andThen r fun a w'=>Sem.run P (pure (Value.string a)) w') this).trans ?_
 simp
theorem zD {φ:Ph}:∀{cs:List AV} {vs:List Value} (_:LR φ cs vs) {l:List UInt8} (_:eH (fun | .int .u8 b=>some (UInt8.ofNat b.toNat) | _=>none) cs=some l),
 ∃ns:List Int,vs=ns.map (fun n=>Value.int .u8 n)∧l=ns.map (fun n=>UInt8.ofNat n.toNat)
 | [],vs,hv,l,h=>by rw[hv.gE];simp [eH] at h;subst h;exact ⟨[],rfl,rfl⟩
 | c::cs,vs,hv,l,h=>by
   obtain ⟨y,ys,rfl,hy,uG⟩:=hv.cu
   simp only[eH] at h
   split at h
   · simp at h
   · rename_i b hb
     split at h
     · simp at h
     · rename_i bs hbs
       simp at h;subst h
       obtain ⟨ns,rfl,rfl⟩:=zD uG hbs
       split at hb
       · cases hy
         simp at hb;subst hb
         exact ⟨_::ns,rfl,rfl⟩
       · simp at hb
structure Entries (P:Program) (x:Value) (es:Array MapEntry) (w:World):Prop where
 is:(x= .map none∧es= #[])∨∃r clock,x= .map (some r)∧w.heap[r]? =some (.map es clock)
theorem Bk {P:Program} {t key elem:TypeId} (hu:P.underlying t=some (.map key elem)) {x k:Value} {es:Array MapEntry} {w:World} (yK:Entries P x es w)
 {d:TypeDesc} (hd:P.underlying key=some d) (FV:∀b n,(Instr.checkKey b (n+1) key k).run P w= .ok () w) {r:Option (Nat×Value)} (hf:Instr.findNow d k es.toList 0=some r) {z:Value} (hz:r=none→(zeroValue elem).run P w= .ok z w) (ok:Bool):
 (Instr.lookup t x k ok).run P w= .ok (match r with | some (_,v)=>if ok then .tuple #[v,.bool true] else v | none=>if ok then .tuple #[z,.bool false] else z) w:=by
 have OJ:=fun b=>FV b 9999
 rw[Instr.lookup]
 simp only[Sem.run_bind,run_underlying hu,Result.andThen_ok]
 rcases yK.is with ⟨rfl,rfl⟩ | ⟨b,clock,rfl,hb⟩
 · simp only[Sem.run_bind,Sem.run_pure,Result.andThen_ok,OJ,Instr.findKey,run_underlying hd,hf]
   cases r with
   | none=>simp [hz rfl]
   | some q=>simp
 · have zE:(getObj b).run P w= .ok (.map es clock) w:=by simp [getObj,Sem.run,hb]
   simp only[Sem.run_bind,Sem.run_pure,Result.andThen_ok,zE,OJ,Instr.findKey,run_underlying hd,hf]
   cases r with
   | none=>simp [hz rfl]
   | some q=>simp
theorem zF {P:Program} {t key elem:TypeId} (hu:P.underlying t=some (.map key elem)) {x k:Value} {es:Array MapEntry} {w:World} (yK:Entries P x es w)
 (FV:∀b,(Instr.checkKey b 10000 key k).run P w= .ok () w) {r:Option (Nat×Value)} (hf:(Instr.findKey key k es.toList).run P w= .ok r w) {z:Value} (hz:r=none→(zeroValue elem).run P w= .ok z w) (ok:Bool):
 (Instr.lookup t x k ok).run P w= .ok (match r with | some (_,v)=>if ok then .tuple #[v,.bool true] else v | none=>if ok then .tuple #[z,.bool false] else z) w:=by
 rw[Instr.lookup]
 simp only[Sem.run_bind,run_underlying hu,Result.andThen_ok]
 rcases yK.is with ⟨rfl,rfl⟩ | ⟨b,clock,rfl,hb⟩
 · simp only[Sem.run_bind,Sem.run_pure,Result.andThen_ok,FV,hf]
   cases r with
   | none=>simp [hz rfl]
   | some q=>simp
 · have zE:(getObj b).run P w= .ok (.map es clock) w:=by simp [getObj,Sem.run,hb]
   simp only[Sem.run_bind,Sem.run_pure,Result.andThen_ok,zE,FV,hf]
   cases r with
   | none=>simp [hz rfl]
   | some q=>simp
theorem zG {φ:Ph} (hg:GL E φ) {h:aA} {w:World} (ok:OK E φ h w) {ts:List AV} {a:Act} (ht:LR φ ts a.tmps.toList) {o:Oper} {v:AV} (e:dW E ts h o.op=some v):
 ∃v',VR φ v v'∧∀w',w'.heap=w.heap→(execOp a.eval o).run E.P w'= .ok (.value v') w':=by
 have ev:∀{x:Operand} {v:AV},eA E ts x=some v→VR φ v (a.eval x):=fun h=>nH hg ht h
 unfold execOp
 generalize o.op=op at e ⊢
 unfold dW at e
 split at e
 ·
  split at e
  · rename_i hx
    obtain ⟨x',hx',hr⟩:=Ek ok (ev hx) e
    exact ⟨x',hx',fun w' hw=>fp (hr w' hw)⟩
  · simp at e
 ·
  split at e
  · rename_i el v0 hs hd hx
    split at e
    · rename_i he
      simp at e;subst e
      have h1:=ev hx
      generalize lA:a.eval _=cv at h1
      cases h1
      refine ⟨.string .empty,VR.str .empty,fun w' _=>fp ?_⟩
      simp [lA,convert,run_underlying hs,run_underlying hd,run_underlying he,Conv.bytesToString]
    · rename_i i o len _ _ he
      split at e
      · rename_i l hb
        simp at e;subst e
        have h1:=ev hx
        generalize lA:a.eval _=cv at h1
        cases h1 with
        | @slice _ lc _ _ _ _ hφ=>
        unfold FG at hb
        split at hb
        · rename_i cs el' ro hgc
          split at hb
          · rename_i hle
            obtain ⟨C,e',lo,hi,hbk,hc⟩:=ok.cells hgc hφ
            obtain ⟨vs,hvl,DF,Bg⟩:=hc.range o len hle
            obtain ⟨ns,rfl,rfl⟩:=zD Bg hb
            refine ⟨.string ⟨(ns.map (fun n=>UInt8.ofNat n.toNat)).toArray⟩,?_,fun w' hw'=>fp ?_⟩
            · have:=VR.str (φ:=φ) ⟨(ns.map (fun n=>UInt8.ofNat n.toNat)).toArray⟩
              simpa using this
            · rw[←hw'] at hbk
              have Bj:=n9 (P:=E.P) hbk (lc.off+o) _ DF
              rw[hvl] at Bj
              have:=wG ns Bj (gK ‹_› ‹_› lc.iX)
              rw[lA]
              simp only[convert,Sem.run_bind,run_underlying hs,run_underlying hd,Result.andThen_ok,run_underlying he]
              exact this
          · simp at hb
        · simp at hb
      · simp at e
    · simp at e
  · simp at e
 ·
  rename_i t x ix gW
  split at e
  · rename_i key elem m k hu hm hk
    split at e
    · rename_i yB
      have FX:∃d,E.P.underlying key=some d∧jf (some d) k=true:=by
       cases hd:E.P.underlying key with
       | none=>rw[hd] at yB;simp [jf] at yB
       | some d=>rw[hd] at yB;exact ⟨d,rfl,yB⟩
      obtain ⟨d,hd,yL⟩:=FX
      have Vp:=ev hm
      have QM:=ev hk
      split at e
      · simp at e
      · rename_i es yK
        have vw:∃gF:Array MapEntry,H_ φ es gF.toList∧∀w',w'.heap=w.heap→Entries E.P (a.eval x) gF w':=by
         split at yK
         · simp at yK;subst yK
           generalize lA:a.eval x=cv at Vp
           cases Vp
           exact ⟨#[],⟨rfl,fun i x y p _=>by simp at p⟩,fun w' _=>⟨.inl ⟨rfl,rfl⟩⟩⟩
         · rename_i i
           split at yK
           · rename_i es0 clock hgm
             simp at yK;subst yK
             generalize lA:a.eval x=cv at Vp
             cases Vp with
             | @map _ l hφ=>
             have AY:=ok.live i _ l hgm hφ
             obtain ⟨H0,gF,hb,gM⟩:=AY
             exact ⟨gF,gM,fun w' hw=>⟨.inr ⟨l.eg,clock,rfl,by rw[hw];exact hb⟩⟩⟩
           · simp at yK
         · simp at yK
        obtain ⟨gF,gM,f'⟩:=vw
        split at e
        · simp at e
        · rename_i j v0 hf
          obtain ⟨r',h1,h2⟩:=qf yL QM gM hf
          cases r' with
          | none=>exact h2.elim
          | some q=>
          obtain ⟨j',v'⟩:=q
          obtain ⟨_,DF,_⟩:=h2
          simp at e;subst e
          refine ⟨if gW then .tuple #[v',.bool true] else v',?_,fun w' hw=>fp ?_⟩
          · split
            · exact VR.tuple' (iW:=[v',.bool true]) (.cons DF (.cons (.bool true) (.nil φ)))
            · exact DF
          · exact Bk hu (f' w' hw) hd (fun b n=>qY hd yL QM b n w') h1 (z:=undef) (fun e=>by simp at e) gW
        · rename_i hf
          obtain ⟨r',h1,h2⟩:=qf yL QM gM hf
          cases r' with
          | some q=>exact h2.elim
          | none=>
          split at e
          · rename_i z hz
            simp at e;subst e
            obtain ⟨z',yA,jO⟩:=iJ hz
            refine ⟨if gW then .tuple #[z',.bool false] else z',?_,fun w' hw=>fp ?_⟩
            · split
              · exact VR.tuple' (iW:=[z',.bool false]) (.cons (yA φ) (.cons (.bool false) (.nil φ)))
              · exact yA φ
            · exact Bk hu (f' w' hw) hd (fun b n=>qY hd yL QM b n w') h1 (fun _=>jO w') gW
          · simp at e
    · split at e
      · rename_i yB
        have FX:∃d,E.P.underlying key=some d∧j9 E (some d) k=true:=by
         cases hd:E.P.underlying key with
         | none=>rw[hd] at yB;simp [j9] at yB
         | some d=>rw[hd] at yB;exact ⟨d,rfl,yB⟩
        obtain ⟨d,hd,yL⟩:=FX
        have Vp:=ev hm
        have QM:=ev hk
        split at e
        · simp at e
        · rename_i es yK
          have vw:∃gF:Array MapEntry,H_ φ es gF.toList∧∀w',w'.heap=w.heap→Entries E.P (a.eval x) gF w':=by
           split at yK
           · simp at yK;subst yK
             generalize lA:a.eval x=cv at Vp
             cases Vp
             exact ⟨#[],⟨rfl,fun i x y p _=>by simp at p⟩,fun w' _=>⟨.inl ⟨rfl,rfl⟩⟩⟩
           · rename_i i
             split at yK
             · rename_i es0 clock hgm
               simp at yK;subst yK
               generalize lA:a.eval x=cv at Vp
               cases Vp with
               | @map _ l hφ=>
               have AY:=ok.live i _ l hgm hφ
               obtain ⟨H0,gF,hb,gM⟩:=AY
               exact ⟨gF,gM,fun w' hw=>⟨.inr ⟨l.eg,clock,rfl,by rw[hw];exact hb⟩⟩⟩
             · simp at yK
           · simp at yK
          obtain ⟨gF,gM,f'⟩:=vw
          split at e
          · simp at e
          · rename_i j v0 hf
            obtain ⟨r',h1,h2⟩:=mF QM gM hf
            cases r' with
            | none=>exact h2.elim
            | some q=>
            obtain ⟨j',v'⟩:=q
            obtain ⟨_,DF,_⟩:=h2
            simp at e;subst e
            refine ⟨if gW then .tuple #[v',.bool true] else v',?_,fun w' hw=>fp ?_⟩
            · split
              · exact VR.tuple' (iW:=[v',.bool true]) (.cons DF (.cons (.bool true) (.nil φ)))
              · exact DF
            · exact zF hu (f' w' hw) (fun b=>py hd yL QM b 9998 w') (kf hd yL QM (h1 w')) (z:=undef) (fun e=>by simp at e) gW
          · rename_i hf
            obtain ⟨r',h1,h2⟩:=mF QM gM hf
            cases r' with
            | some q=>exact h2.elim
            | none=>
            split at e
            · rename_i z hz
              simp at e;subst e
              obtain ⟨z',yA,jO⟩:=iJ hz
              refine ⟨if gW then .tuple #[z',.bool false] else z',?_,fun w' hw=>fp ?_⟩
              · split
                · exact VR.tuple' (iW:=[z',.bool false]) (.cons (yA φ) (.cons (.bool false) (.nil φ)))
                · exact yA φ
              · exact zF hu (f' w' hw) (fun b=>py hd yL QM b 9998 w') (kf hd yL QM (h1 w')) (fun _=>jO w') gW
            · simp at e
      · simp at e
  · simp at e
 ·
  split at e
  · rename_i t i Qc Ih
    have hl:=iI hg ht Ih
    obtain ⟨y,ys,uG,hy,FQ⟩:=hl.cu
    rw[FQ.gE] at uG
    have h0:∀(args:Array Operand),args.toList.map a.eval=[y]→args.map a.eval= #[y]:=fun args e=>by rw[map_toArray,e]
    have h0:=h0 _ uG
    cases hy with
    | @map _ l hφ=>
    split at e
    · rename_i es clock hu hgm
      simp at e;subst e
      have AY:=ok.live i _ l hgm hφ
      obtain ⟨H0,gF,hb,hlen,_⟩:=AY
      refine ⟨_,.int _ _,fun w' hw=>?_⟩
      rw[←hw] at hb
      have zE:(getObj l.eg).run E.P w'= .ok (.map gF clock) w':=by simp [getObj,Sem.run,hb]
      simp [resolve,invoke,builtin,h0,Builtin.len_,Qc,run_underlying hu,goInt,zE,hlen]
    · simp at e
  · simp at e
 · simp at e
end Go.Ab
end
section
namespace Go.Ab
variable {E:Env}
theorem wH (z:List AV):∀(n i:Nat),i<n*z.length→(gA z n)[i]? =z[i%z.length]?
 | 0,i,h=>by omega
 | n+1,i,h=>by
   rw[gA]
   by_cases hi:i<z.length
   · rw[List.getElem?_append_left hi,Nat.mod_eq_of_lt hi]
   · rw[List.getElem?_append_right (by omega),wH z n (i - z.length) (by rw[Nat.add_mul] at h;omega)]
     rw[Nat.mod_eq_sub_mod (a:=i) (by omega)]
theorem nI (z:List AV):∀n,(gA z n).length=n*z.length
 | 0=>by simp [gA]
 | n+1=>by rw[gA,List.length_append,nI z n,Nat.add_mul];omega
theorem KP {φ:Ph} {z:List AV} {z':Array Value} (h:LR φ z z'.toList) (n:Nat):LR φ (gA z n) ((Array.range (n*z'.size)).map (fun i=>z'[i%z'.size]!)).toList:=by
 have hl:z.length=z'.size:=by simpa using h.1
 refine ⟨by rw[nI];simp [hl],fun i x y hx hy=>?_⟩
 have hi:i<n*z.length:=by
  have:=(List.getElem?_eq_some_iff.1 hx).1
  rwa [nI] at this
 rw[wH z n i hi] at hx
 obtain ⟨v,hv,hr⟩:=h.get hx
 have ae3:0<z'.size:=by
  rcases Nat.eq_zero_or_pos z'.size with h0 | h0
  · rw[hl,h0] at hi;omega
  · exact h0
 have:i%z'.size<z'.size:=Nat.mod_lt _ ae3
 rw[hl] at hi
 simp [hi] at hy
 rw[hl] at hv
 simp [this] at hv
 simp [this] at hy
 rw[←hy,hv];exact hr
structure Made (E:Env) (φ:Ph) (obj:aX) (mk:Nat→AV) (O:Obj) (mk':Nat→Value):Prop where
 val:∀(φ':Ph) (i b:Nat),φ.le φ'→φ' i=some ⟨b,0,0⟩→VR φ' (mk i) (mk' b)
 obj:∀(φ':Ph) (b:Nat),φ.le φ'→OR E φ' obj ⟨b,0,0⟩ (some O)
theorem wI {φ φ':Ph} (hle:φ.le φ') {cs:List AV} {C:Array Value} (h:LR φ cs C.toList) (t:TypeId) (b:Nat):OR E φ' (.cells cs t false) ⟨b,0,0⟩ (some (.cells C t)):=by
 refine ⟨C,t,0,0,rfl,⟨?_,fun k x hk=>?_,fun _ k _ _=>by omega,fun _ _ _=>rfl⟩,fun _=>⟨rfl,rfl,fun _ _ _=>by have:=h.1;simp at this;exact this.symm⟩⟩
 · have:=h.1;simp at this;simp [fL,this]
 · obtain ⟨y,hy,hr⟩:=h.get hk
   exact ⟨y,by simpa using hy,hr.mono hle⟩
set_option maxHeartbeats 1000000 in
theorem wJ {φ:Ph} (hg:GL E φ) {ts:List AV} {a:Act} (ht:LR φ ts a.tmps.toList) {o:Oper} {obj:aX} {mk:Nat→AV} (e:eB E ts o.op=some (obj,mk)):
 ∃O mk',Made E φ obj mk O mk'∧∀w,(execOp a.eval o).run E.P w= .ok (.value (mk' w.heap.size)) (w.alloc O):=by
 have ev:∀{x:Operand} {v:AV},eA E ts x=some v→VR φ v (a.eval x):=fun h=>nH hg ht h
 unfold execOp
 generalize o.op=op at e ⊢
 unfold eB at e
 split at e
 ·
  rename_i t
  split at e
  · rename_i z hz
    simp at e;obtain ⟨rfl,rfl⟩:=e
    obtain ⟨z',yA,jO⟩:=iJ hz
    refine ⟨.cells z'.cells t,fun b=> .pointer (some ⟨b,0,none⟩),⟨fun φ' i b _ hi=>by have:=VR.ptr (φ:=φ') 0 hi;simpa using this,fun φ' b hle=>wI hle (yA φ).cells _ b⟩,fun w=>fp ?_⟩
    simp [Instr.alloc,jO,newVar,newRow]
  · simp at e
 ·
  rename_i t x
  split at e
  · rename_i v hv
    simp at e;obtain ⟨rfl,rfl⟩:=e
    refine ⟨.cells (a.eval x).cells t,fun b=> .pointer (some ⟨b,0,none⟩),⟨fun φ' i b _ hi=>by have:=VR.ptr (φ:=φ') 0 hi;simpa using this,fun φ' b hle=>wI hle (ev hv).cells _ b⟩,fun w=>fp ?_⟩
    simp [Instr.box,newVar,newRow]
  · simp at e
 ·
  rename_i t len parts
  split at e
  · rename_i elem hu
    split at e
    · rename_i n z ps hn hz Qa
      split at e
      · rename_i hc
        split at e
        · rename_i cs hf
          simp at e;obtain ⟨rfl,rfl⟩:=e
          obtain ⟨z',yA,jO⟩:=iJ hz
          have hp:=yI hg ht Qa
          have Y8:z'.cells.size=n:=by have:=(yA φ).cells.1;simp at this;omega
          have QN:=KP (yA φ).cells len
          rw[Y8] at QN
          obtain ⟨C',zB,Bg⟩:=ue (place:=fun i=>some (i*n,n)) (qs:=(parts.map fun (i,x)=>(i,a.eval x)).toList) (by simpa using hp) QN hf
          refine ⟨.cells C' elem,fun b=> .slice (some ⟨b,0,none⟩) len len,⟨fun φ' i b _ hi=>by have:=VR.slice (φ:=φ') 0 len len false hi;simpa [gK] using this,fun φ' b hle=>wI hle Bg _ b⟩,fun w=>fp ?_⟩
          have h24:¬len*n>2^24:=by omega
          simp only[Instr.buildSlice,Sem.run_bind,run_underlying hu,Result.andThen_ok,eC hn,h24,if_false,Sem.run_pure]
          by_cases h0:len*n=0
          · simp only[h0,if_true,Sem.run_pure,Result.andThen_ok]
            rw[h0] at zB
            have r0:Array.range 0= #[]:=rfl
            simp [r0] at zB
            simp [zB,newRow,r0]
          · simp only[h0,if_false,Sem.run_bind,jO,Result.andThen_ok,Sem.run_pure]
            rw[Y8]
            simp only[zB]
            simp [newRow]
        · simp at e
      · simp at e
    · simp at e
  · simp at e
 ·
  rename_i t lo co
  split at e
  · rename_i elem k len k' cap hu hl hc
    split at e
    · rename_i n bytes z hn hb hz
      split at e
      · rename_i KM
        obtain ⟨c1,c2,c3,c4,c5⟩:=KM
        simp at e;obtain ⟨rfl,rfl⟩:=e
        obtain ⟨z',yA,jO⟩:=iJ hz
        have Y8:z'.cells.size=n:=by have:=(yA φ).cells.1;simp at this;omega
        have QN:=KP (yA φ).cells cap.toNat
        rw[Y8] at QN
        have h1:=ev hl
        have h2:=ev hc
        generalize QO:a.eval lo=lv at h1
        generalize lA:a.eval co=cv at h2
        cases h1;cases h2
        refine ⟨.cells ((Array.range (cap.toNat*n)).map (fun i=>z'.cells[i%n]!)) elem,fun b=> .slice (some ⟨b,0,none⟩) len.toNat cap.toNat,
         ⟨fun φ' i b _ hi=>by have:=VR.slice (φ:=φ') 0 len.toNat cap.toNat false hi;simpa [gK] using this,fun φ' b hle=>wI hle QN _ b⟩,fun w=>fp ?_⟩
        have w1:IntKind.i64.wrap len=len:=IntWalk.i64_in _ (by omega)
        have w2:IntKind.i64.wrap cap=cap:=IntWalk.i64_in _ (by omega)
        obtain ⟨inf,Ij,ia⟩:=qd (uc _ hb) w
        have t1:¬(cap<0∨(2^48:Int)<bytes*cap):=by omega
        simp only[Instr.makeSlice,Sem.run_bind,run_underlying hu,Result.andThen_ok,QO,lA,asInt,asIntOf,Sem.run_pure,Ij,ia,w1,w2]
        have Qd:(0:Int)≤inf.bytes*cap:=Int.mul_nonneg (by omega) (by omega)
        have tl:(decide (cap<0)||decide ((inf.bytes:Int)*cap>2^48))=false:=by
         rw[ia];simp only[Bool.or_eq_false_iff,decide_eq_false_iff_not];omega
        have tl2:decide (len<0)=false:=by simp only[decide_eq_false_iff_not];omega
        have tl3:decide (len>cap)=false:=by simp only[decide_eq_false_iff_not];omega
        rw[←ia]
        simp only[tl,tl2,tl3,Bool.or_self,Bool.false_eq_true,if_false,run_askRoom,eC hn,Sem.run_bind,Result.andThen_ok]
        by_cases h0:cap.toNat*n=0
        · have r0:Array.range 0= #[]:=rfl
          simp [h0,newRow,r0]
        · simp only[h0,if_false,Sem.run_bind,jO,Result.andThen_ok,Sem.run_pure]
          simp [newRow,Y8]
      · simp at e
    · simp at e
  · simp at e
 ·
  rename_i t r
  split at e
  · simp at e;obtain ⟨rfl,rfl⟩:=e
    exact ⟨.map #[] 0,fun b=> .map (some b),⟨fun φ' i b _ hi=>by have:=VR.map (φ:=φ') hi;simpa using this,fun φ' b hle=>⟨rfl, #[],rfl,rfl,fun i x y p _=>by simp at p⟩⟩,fun w=>fp (by simp [Instr.makeMap])⟩
  · rename_i o
    split at e
    · rename_i hu hv
      simp at e;obtain ⟨rfl,rfl⟩:=e
      have h1:=ev hv
      generalize QO:a.eval o=lv at h1
      cases h1
      exact ⟨.map #[] 0,fun b=> .map (some b),⟨fun φ' i b _ hi=>by have:=VR.map (φ:=φ') hi;simpa using this,fun φ' b hle=>⟨rfl, #[],rfl,rfl,fun i x y p _=>by simp at p⟩⟩,fun w=>fp (by simp [Instr.makeMap,run_underlying hu,QO,asInt,asIntOf])⟩
    · simp at e
 ·
  rename_i t x
  split at e
  · rename_i s hu hx
    simp at e;obtain ⟨rfl,rfl⟩:=e
    have h1:=ev hx
    generalize QO:a.eval x=lv at h1
    generalize KO:AV.str s=s0 at h1
    cases h1<;>cases KO
    rename_i s'
    exact ⟨.stringIter s' 0,fun b=> .pointer (some ⟨b,0,none⟩),⟨fun φ' i b _ hi=>by have:=VR.ptr (φ:=φ') 0 hi;simpa using this,fun φ' b hle=>⟨rfl,s',rfl,rfl⟩⟩,fun w=>fp (by simp [Instr.range,run_underlying hu,QO])⟩
  · rename_i hu hx
    simp at e;obtain ⟨rfl,rfl⟩:=e
    have h1:=ev hx
    generalize QO:a.eval x=lv at h1
    cases h1
    exact ⟨.mapIter none 0 #[] 0,fun b=> .pointer (some ⟨b,0,none⟩),⟨fun φ' i b _ hi=>by have:=VR.ptr (φ:=φ') 0 hi;simpa using this,fun φ' b hle=>⟨rfl,rfl⟩⟩,fun w=>fp (by simp [Instr.range,run_underlying hu,QO])⟩
  · simp at e
 · simp at e
end Go.Ab
end
