import Derived.Laws.StructEq
import Derived.Laws.Slices
import Derived.Laws.Strings
import Derived.ChangeKeysEq
import Derived.Deep.MidRow
import Derived.Lib.Strings
import Derived.IntWalk
import Derived.Test.YtjpijdaopopeeaaGreatA0
set_option linter.unusedVariables false
set_option linter.unusedSimpArgs false
section
namespace Go.Ab
variable {E:Env}
def GL (E:Env) (φ:Ph):Prop:=∀g,g<E.G→φ g=some ⟨g,0,0⟩
theorem evs_VR {φ:Ph} (hg:GL E φ) {ts:List AV} {a:Act} (ht:LR φ ts a.tmps.toList) {x:Operand} {v:AV} (h:evs E ts x=some v):VR φ v (a.eval x):=by
 cases x with
 | tmp t=>
   simp only[evs,Option.some.injEq] at h;subst h
   have:=ht.getD (VR.undef φ) t
   rw[show a.eval (.tmp t)=a.tmps.toList.getD t undef by simp [Act.eval,Array.getD_eq_getD_getElem?,List.getD]]
   exact this
 | const c=>exact ofConst_VR φ h
 | global g=>
   simp only[evs] at h
   split at h
   · rename_i hlt;simp at h;subst h;have:=VR.ptr 0 (hg g hlt);simpa [Act.eval] using this
   · simp at h
 | func f=>simp [evs] at h;subst h;exact VR.func' (a':=[]) (b':=[]) f (LR.nil φ) (LR.nil φ)
theorem evAll_LR {φ:Ph} (hg:GL E φ) {ts:List AV} {a:Act} (ht:LR φ ts a.tmps.toList) {l:List Operand} {r:List AV} (h:evAll E ts l=some r):LR φ r (l.map a.eval):=by
 obtain ⟨hl,hv⟩:=mapAll_some h
 refine ⟨by simp [hl],fun i x y hx hy=>?_⟩
 simp at hy
 obtain ⟨o,ho,rfl⟩:=hy
 obtain ⟨z,hz,he⟩:=hv i o ho
 rw[hx] at hz;simp at hz;subst hz
 exact evs_VR hg ht he
theorem run_size {P:Program} {t:TypeId} {n:Nat} (h:(P.info? t).map (·.size)=some n) (w:World):(sizeOf t).run P w= .ok n w:=by
 cases hq:P.info? t with
 | none=>simp [hq] at h
 | some i=>simp [hq] at h;simp [sizeOf,typeInfo,hq,h]
theorem run_bytes {P:Program} {t:TypeId} {n:Nat} (h:(P.info? t).map (·.bytes)=some n) (w:World):∃i,(typeInfo t).run P w= .ok i w∧i.bytes=n:=by
 cases hq:P.info? t with
 | none=>simp [hq] at h
 | some i=>simp [hq] at h;exact ⟨i,by simp [typeInfo,hq],h⟩
theorem zeroT_run {t:TypeId} {z:AV} (h:zeroT E t=some z):∃z',(∀φ,VR φ z z')∧∀w,(zeroValue t).run E.P w= .ok z' w:=by
 unfold zeroT at h
 split at h
 · rename_i i hi
   split at h
   · rename_i z' hz
     exact ⟨z',fun φ=>ofConst_VR φ h,fun w=>by simp [zeroValue,typeInfo,hi,hz]⟩
   · simp at h
 · simp at h
theorem isAggT_run {t:TypeId} {b:Bool} (h:isAggT E t=some b) (w:World):(isAgg t).run E.P w= .ok b w:=by
 unfold isAggT at h
 unfold isAgg
 rw[Sem.run_bind]
 split at h<;>rename_i hu<;>simp at h
 · subst h;rw[run_underlying hu];rfl
 · subst h;rw[run_underlying hu];rfl
 · rename_i d h1 h2
   subst h;rw[run_underlying hu]
   cases d<;>first | rfl | (exact absurd rfl (h1 _)) | (exact absurd rfl (h2 _ _))
theorem toArray_extract (l:List Value) (a b:Nat):l.toArray.extract a b=((l.drop a).take (b - a)).toArray:=by simp
theorem partT_run {φ:Ph} {t:TypeId} {cs:List AV} {cs':List Value} (hc:LR φ cs cs') {off:Nat} {v:AV} (h:partT E t cs off=some v):
 ∃v',VR φ v v'∧∀w,(part t cs'.toArray off).run E.P w= .ok v' w:=by
 unfold partT at h
 split at h
 · rename_i ha
   split at h
   · rename_i n hn
     split at h
     · simp at h;subst h
       refine ⟨.agg ((cs'.drop off).take n).toArray,VR.agg' ((hc.drop off).take n),fun w=>?_⟩
       simp only[part,Sem.run_bind,isAggT_run ha,Result.andThen_ok,if_true,run_size hn,Sem.run_pure,toArray_extract,Nat.add_sub_cancel_left]
     · simp at h
   · simp at h
 · rename_i ha
   obtain ⟨y,hy,hv⟩:=hc.get h
   refine ⟨y,hv,fun w=>?_⟩
   simp only[part,Sem.run_bind,isAggT_run ha,Result.andThen_ok,Bool.false_eq_true,if_false]
   have:cs'.toArray[off]? =some y:=by simpa using hy
   simp [this]
 · simp at h
theorem bytes_beq (a b:ByteArray):(a.toList==b.toList)=(a.data.toList==b.data.toList):=by rw[ByteArray.toList_eq,ByteArray.toList_eq]
set_option linter.unusedSimpArgs false in
theorem binInt_run {φ:Ph} {op:BinOp} {k:IntKind} {x y:Int} {v:AV} (h:binInt op k x y=some v) (hs:op≠ .shl) (hs':op≠ .shr) (t:TypeId):
 ∃v',VR φ v v'∧∀w,(binOp op t (.int k x) (.int k y)).run E.P w= .ok v' w:=by
 unfold binInt at h
 split at h
 all_goals first
  | (simp at h;subst h;exact ⟨_,.int _ _,fun w=>by simp [binOp,Op.intArith,Op.intBits,Op.intCmp]⟩)
  | (simp at h;subst h;exact ⟨_,.bool _,fun w=>by simp [binOp,Op.intArith,Op.intBits,Op.intCmp]⟩)
  | (split at h
     · simp at h
     · rename_i hy
       simp at h;subst h;exact ⟨_,.int _ _,fun w=>by simp [binOp,Op.intDiv,hy]⟩)
  | simp at h
set_option linter.unusedSimpArgs false in
theorem binStr_run {φ:Ph} {op:BinOp} {x y:ByteArray} {v:AV} (h:binStr op x.data.toList y.data.toList=some v) (t:TypeId):
 ∃v',VR φ v v'∧∀w,(binOp op t (.string x) (.string y)).run E.P w= .ok v' w:=by
 unfold binStr at h
 split at h
 · split at h
   · rename_i hlt
     simp at h;subst h
     refine ⟨.string (x++y),?_,fun w=>?_⟩
     · have:=VR.str (φ:=φ) (x++y);simpa using this
     · have hlt':x.size+y.size<1099511627776:=by
        have e:∀b:ByteArray,b.size=b.data.toList.length:=fun b=>by cases b;rfl
        rw[e,e];exact hlt
       have hm:IntKind.i64.max=9223372036854775807:=by decide
       have:¬((x.size+y.size:Nat):Int) >IntKind.i64.max:=by rw[hm];omega
       simp only[binOp,Op.stringOp,this,if_false,Sem.run_pure]
   · simp at h
 all_goals first
  | (simp only[Option.some.injEq] at h;subst h;exact ⟨_,.bool _,fun w=>by simp only[binOp,Op.stringOp,bytes_beq,ByteArray.toList_eq,Sem.run_pure]⟩)
  | simp at h
theorem eqAV_run' {φ:Ph} {t:TypeId} {x y:AV} {r:Bool} (h:eqAV E t x y=some r) {x' y':Value} (hx:VR φ x x') (hy:VR φ y y') (dd:Nat):
 ∀w,(Op.equalIn (dd+1) t x' y').run E.P w= .ok r w:=by
 intro w
 unfold eqAV at h
 split at h<;>(try (simp at h;done))
 all_goals
  rename_i hd
  split at h<;>(try (simp at h;done))
  all_goals
   simp only[Option.some.injEq] at h
   subst h
   unfold Op.equalIn
   rw[Sem.run_bind,run_underlying hd]
   cases hx<;>cases hy<;>rfl
theorem eqAV_run {φ:Ph} {t:TypeId} {x y:AV} {r:Bool} (h:eqAV E t x y=some r) {x' y':Value} (hx:VR φ x x') (hy:VR φ y y'):
 ∀w,(Op.equal t x' y').run E.P w= .ok r w:=eqAV_run' h hx hy 9999
theorem eqFieldsA_run {φ:Ph} {eq:TypeId→AV→AV→Option Bool} {d:Nat} (heq:∀t a b r a' b',eq t a b=some r→VR φ a a'→VR φ b b'→∀w,(Op.equalIn d t a' b').run E.P w= .ok r w)
 {xs ys:List AV} {xs' ys':Array Value} (hx:LR φ xs xs'.toList) (hy:LR φ ys ys'.toList):∀{fs:List Field} {r:Bool} (_:eqFieldsA E eq xs ys fs=some r) (w:World),(Op.eqFields d xs' ys' fs).run E.P w= .ok r w
 | [],r,h,w=>by simp [eqFieldsA] at h;subst h;rfl
 | f::fs,r,h,w=>by
   simp only[eqFieldsA] at h
   unfold Op.eqFields
   split at h
   · rename_i hn
     rw[if_neg (by simp [hn])]
     exact eqFieldsA_run heq hx hy h w
   · rename_i hn
     rw[if_pos hn]
     split at h
     · rename_i a b ha hb
       obtain ⟨a',hva,hra⟩:=partT_run hx ha
       obtain ⟨b',hvb,hrb⟩:=partT_run hy hb
       rw[Array.toArray_toList] at hra hrb
       split at h
       · rename_i he
         have:=eqFieldsA_run heq hx hy h w
         simp [Sem.run_bind,hra,hrb,heq _ _ _ _ _ _ he hva hvb,this]
       · rename_i he
         simp at h;subst h
         simp [Sem.run_bind,hra,hrb,heq _ _ _ _ _ _ he hva hvb]
       · simp at h
     · simp at h
theorem eqDeep_run {φ:Ph}:∀(n d:Nat) (t:TypeId) (a b:AV) (r:Bool) (a' b':Value) (_:eqDeep E n t a b=some r) (_:VR φ a a') (_:VR φ b b') (w:World),(Op.equalIn (d+n) t a' b').run E.P w= .ok r w
 | 0,_,_,_,_,_,_,_,h,_,_,_=>by simp [eqDeep] at h
 | n+1,d,t,a,b,r,a',b',h,ha,hb,w=>by
   rw[←Nat.add_assoc]
   unfold eqDeep at h
   split at h
   · cases ha;cases hb
     split at h
     · rename_i hu
       split at h
       · rename_i hk;subst hk
         simp at h;subst h
         exact run_equalIn_int w (d+n) t _ _ _ _ hu
       · simp at h
     · simp at h
   · cases ha;cases hb
     split at h
     · rename_i hu
       simp only[Option.some.injEq] at h;subst h
       rw[run_equalIn_string w (d+n) t _ _ hu,ByteArray.toList_eq,ByteArray.toList_eq]
     · simp at h
   · obtain ⟨xs',rfl,hxs⟩:=ha.agg_inv
     obtain ⟨ys',rfl,hys⟩:=hb.agg_inv
     split at h
     · rename_i fs hu
       split at h
       · rename_i hst
         have hfs:E.P.fieldsOf t=fs:=by simp [Program.fieldsOf,hu]
         rw[run_equalIn_struct w (d+n) t xs' ys' (by rw[hfs];exact hu) hst,hfs]
         exact eqFieldsA_run (fun t a b r a' b' h1 h2 h3 w=>eqDeep_run n d t a b r a' b' h1 h2 h3 w) hxs hys h w
       · simp at h
     · simp at h
   · exact eqAV_run' h ha hb (d+n) w
theorem eqGuard_agg {op:BinOp} {t:TypeId} (x y:Operand) (xs ys:Array Value) (h:E.P.eqGuardType E.P.depth t=false) (w:World):(eqGuard op t x y (.agg xs) (.agg ys)).run E.P w= .ok () w:=by
 unfold eqGuard
 cases op<;>(try rfl)
 all_goals simp [Sem.run_bind,run_program,h]
theorem eqGuard_other {op:BinOp} (h1:op≠ .eql) (h2:op≠ .neq) (t:TypeId) (x y:Operand) (a b:Value) (w:World):(eqGuard op t x y a b).run E.P w= .ok () w:=by
 unfold eqGuard;cases op<;>first | rfl | (exact absurd rfl h1) | (exact absurd rfl h2)
def guardV (xc yc:Bool):Value→Value→Bool
 | .nilIface,.nilIface=>xc||yc
 | .agg _,.agg _=>false
 | _,_=>true
theorem eqGuard_plain {op:BinOp} (t:TypeId) (x y:Operand) (a b:Value) (h:guardV (isConst x) (isConst y) a b=true) (w:World):
 (eqGuard op t x y a b).run E.P w= .ok () w:=by
 unfold eqGuard
 cases op<;>(try rfl)
 all_goals
  cases a<;>cases b<;>first
   | rfl
   | (simp [guardV] at h;done)
   | (cases x<;>cases y<;>first | rfl | (simp [guardV,isConst] at h;done))
theorem shift_run {k k':IntKind} {x y:Int} (hy:¬y<0) (t:TypeId):
 (∀w,(binOp .shl t (.int k x) (.int k' y)).run E.P w= .ok (.int k (k.wrap (x*2^(min y.toNat k.bits)))) w)∧
 (∀w,(binOp .shr t (.int k x) (.int k' y)).run E.P w= .ok (.int k (x.fdiv (2^(min y.toNat k.bits)))) w):=by
 constructor<;>intro w<;>simp [binOp,Op.shift,hy]
theorem guardOK_VR {φ:Ph} {a b:AV} {a' b':Value} (hx:VR φ a a') (hy:VR φ b b') {xo yo:Operand} (h:guardOK (isConst xo) (isConst yo) a b=true):
 guardV (isConst xo) (isConst yo) a' b'=true:=by
 cases hx<;>cases hy<;>first | rfl | exact h | (simp [guardOK] at h;done)
def notFloat:Value→Prop
 | .float _ _ | .complex _ _ _=>False
 | _=>True
theorem VR.notFloat {φ:Ph} {a:AV} {a':Value} (h:VR φ a a'):Ab.notFloat a':=by
 cases h with
 | any _ h=>cases a'<;>first | exact trivial | cases h
 | _=>exact trivial
theorem binOp_eql (t:TypeId) {a b:Value} (h1:∀k m k' m',a= .int k m→b= .int k' m'→False) (h2:∀k m,a= .string k→b= .string m→False) (h3:notFloat a) (h4:notFloat b):
 binOp .eql t a b=(do pure (.bool (←Op.equal t a b)):Sem Value):=by
 unfold binOp
 split<;>first
  | rfl
  | contradiction
  | (exact (h1 _ _ _ _ rfl rfl).elim)
  | (exact (h2 _ _ rfl rfl).elim)
  | (exact h3.elim)
  | (exact h4.elim)
  | (exfalso;simp_all;done)
theorem binOp_neq (t:TypeId) {a b:Value} (h1:∀k m k' m',a= .int k m→b= .int k' m'→False) (h2:∀k m,a= .string k→b= .string m→False) (h3:notFloat a) (h4:notFloat b):
 binOp .neq t a b=(do pure (.bool (!(←Op.equal t a b))):Sem Value):=by
 unfold binOp
 split<;>first
  | rfl
  | contradiction
  | (exact (h1 _ _ _ _ rfl rfl).elim)
  | (exact (h2 _ _ rfl rfl).elim)
  | (exact h3.elim)
  | (exact h4.elim)
  | (exfalso;simp_all;done)
set_option linter.unusedSimpArgs false in
theorem binA_run {φ:Ph} {op:BinOp} {t:TypeId} {xo yo:Operand} {a b v:AV} (h:binA E op t (isConst xo) (isConst yo) a b=some v) {a' b':Value} (hx:VR φ a a') (hy:VR φ b b'):
 ∃v',VR φ v v'∧∀w,(do eqGuard op t xo yo a' b';binOp op t a' b':Sem Value).run E.P w= .ok v' w:=by
 unfold binA at h
 split at h
 ·
  cases hx;cases hy
  split at h
  · simp at h
  · rename_i hn
    simp at h;subst h
    refine ⟨_,.int _ _,fun w=>?_⟩
    rw[Sem.run_bind,eqGuard_other (by decide) (by decide)]
    exact (shift_run (E:=E) hn t).1 w
 · cases hx;cases hy
   split at h
   · simp at h
   · rename_i hn
     simp at h;subst h
     refine ⟨_,.int _ _,fun w=>?_⟩
     rw[Sem.run_bind,eqGuard_other (by decide) (by decide)]
     exact (shift_run (E:=E) hn t).2 w
 · rename_i k x k' y h1 h2
   cases hx;cases hy
   split at h
   · rename_i hk;subst hk
     obtain ⟨v',hv,hr⟩:=binInt_run (φ:=φ) (E:=E) h h1 h2 t
     refine ⟨v',hv,fun w=>?_⟩
     rw[Sem.run_bind,eqGuard_plain _ _ _ _ _ rfl]
     exact hr w
   · simp at h
 · cases hx;cases hy
   obtain ⟨v',hv,hr⟩:=binStr_run (φ:=φ) (E:=E) h t
   refine ⟨v',hv,fun w=>?_⟩
   rw[Sem.run_bind,eqGuard_plain _ _ _ _ _ rfl]
   exact hr w
 ·
  split at h
  · simp at h
  · rename_i hg
    split at h
    · rename_i r hr
      simp at h;subst h
      refine ⟨_,.bool r,fun w=>?_⟩
      obtain ⟨xs',rfl,hxs⟩:=hx.agg_inv
      obtain ⟨ys',rfl,hys⟩:=hy.agg_inv
      rw[Sem.run_bind,eqGuard_agg _ _ _ _ (by simpa using hg)]
      have:=eqDeep_run 16 9984 t _ _ r _ _ hr hx hy w
      simp only[Result.andThen_ok]
      rw[binOp_eql (a:= .agg xs') (b:= .agg ys') t (fun _ _ _ _ e=>by simp at e) (fun _ _ e=>by simp at e) trivial trivial,Sem.run_bind]
      rw[show (Op.equal t (.agg xs') (.agg ys')).run E.P w= .ok r w from this];rfl
    · simp at h
 · split at h
   · simp at h
   · rename_i hg
     split at h
     · rename_i r hr
       simp at h;subst h
       refine ⟨_,.bool (!r),fun w=>?_⟩
       obtain ⟨xs',rfl,hxs⟩:=hx.agg_inv
       obtain ⟨ys',rfl,hys⟩:=hy.agg_inv
       rw[Sem.run_bind,eqGuard_agg _ _ _ _ (by simpa using hg)]
       have:=eqDeep_run 16 9984 t _ _ r _ _ hr hx hy w
       simp only[Result.andThen_ok]
       rw[binOp_neq (a:= .agg xs') (b:= .agg ys') t (fun _ _ _ _ e=>by simp at e) (fun _ _ e=>by simp at e) trivial trivial,Sem.run_bind]
       rw[show (Op.equal t (.agg xs') (.agg ys')).run E.P w= .ok r w from this];rfl
     · simp at h
 · rename_i h1 h2 _
   split at h
   · rename_i hg
     split at h
     · rename_i r hr
       simp at h;subst h
       refine ⟨_,.bool r,fun w=>?_⟩
       rw[Sem.run_bind,eqGuard_plain _ _ _ _ _ (guardOK_VR hx hy hg)]
       have:=eqAV_run hr hx hy w
       simp only[Result.andThen_ok]
       rw[binOp_eql t (fun k m k' m' e e'=>by subst e;subst e';cases hx<;>cases hy<;>first | exact h1 _ _ _ _ rfl rfl | (simp [guardOK] at hg;done)) (fun k m e e'=>by subst e;subst e';cases hx<;>cases hy<;>first | exact h2 _ _ rfl rfl | (simp [guardOK] at hg;done)) (VR.notFloat hx) (VR.notFloat hy)]
       rw[Sem.run_bind,this];rfl
     · simp at h
   · simp at h
 · rename_i h1 h2 _
   split at h
   · rename_i hg
     split at h
     · rename_i r hr
       simp at h;subst h
       refine ⟨_,.bool (!r),fun w=>?_⟩
       rw[Sem.run_bind,eqGuard_plain _ _ _ _ _ (guardOK_VR hx hy hg)]
       have:=eqAV_run hr hx hy w
       simp only[Result.andThen_ok]
       rw[binOp_neq t (fun k m k' m' e e'=>by subst e;subst e';cases hx<;>cases hy<;>first | exact h1 _ _ _ _ rfl rfl | (simp [guardOK] at hg;done)) (fun k m e e'=>by subst e;subst e';cases hx<;>cases hy<;>first | exact h2 _ _ rfl rfl | (simp [guardOK] at hg;done)) (VR.notFloat hx) (VR.notFloat hy)]
       rw[Sem.run_bind,this];rfl
     · simp at h
   · simp at h
 · simp at h
end Go.Ab
end
section
namespace Go.Ab
variable {E:Env}
theorem unA_run {φ:Ph} {op:UnOp} {x v:AV} (h:unA op x=some v) {x':Value} (hx:VR φ x x'):∃v',VR φ v v'∧∀w,(Op.unary op x').run E.P w= .ok v' w:=by
 unfold unA at h
 split at h
 · cases hx;simp at h;subst h;exact ⟨_,.int _ _,fun w=>by simp [Op.unary,Op.intArith]⟩
 · cases hx;simp at h;subst h;exact ⟨_,.int _ _,fun w=>by simp [Op.unary,Op.intBits]⟩
 · cases hx;simp at h;subst h;exact ⟨_,.bool _,fun w=>by simp [Op.unary]⟩
 · simp at h
theorem boundA_run {φ:Ph} {x:AV} {y n:Nat} (h:boundA x y=some n) {x':Value} (hx:VR φ x x') {y':Nat} (hy:y≤y') (code:BoundsCode):
 (∀w,(Instr.sliceBound x' y' code).run E.P w= .ok n w)∧n≤y:=by
 unfold boundA at h
 split at h
 · split at h
   · rename_i hc
     cases hx
     simp at h;subst h
     refine ⟨fun w=>?_,by omega⟩
     simp only[Instr.sliceBound,asIntOf,Sem.run_bind,Sem.run_pure,Result.andThen_ok]
     rw[if_pos (by omega)];rfl
   · simp at h
 · simp at h
def OptR (φ:Ph):Option AV→Option Value→Prop
 | none,none=>True
 | some x,some y=>VR φ x y
 | _,_=>False
theorem sliceBounds_eq (isS:Bool) (len cap':Nat) (lo' hi' mx':Option Value):Instr.sliceBounds isS len cap' lo' hi' mx'=(do
 let m←(match mx' with | some v=>Instr.sliceBound v cap' (if isS then .slice3Acap else .slice3Alen) | none=>pure cap':Sem Nat)
 let h←(match hi',mx' with | some v,some _=>Instr.sliceBound v m .slice3B | some v,none=>Instr.sliceBound v m (if isS then .sliceAcap else .sliceAlen) | none,none=>pure len | none,some _=>stuck "Slice: max without high" :Sem Nat)
 let l←(match lo' with | some v=>Instr.sliceBound v h (if mx'.isSome then .slice3C else .sliceB) | none=>pure 0:Sem Nat)
 pure (l,h,m)):=by
 unfold Instr.sliceBounds
 cases mx'<;>cases hi'<;>cases lo'<;>rfl
theorem boundsA_run {φ:Ph} {len cap:Nat} {lo hi mx:Option AV} {l h m:Nat} (e:boundsA len cap lo hi mx=some (l,h,m)) {lo' hi' mx':Option Value}
 (hlo:OptR φ lo lo') (hhi:OptR φ hi hi') (hmx:OptR φ mx mx') {cap':Nat} (hc:cap≤cap') (isS:Bool) (hlen:len≤cap):
 (∀w,(Instr.sliceBounds isS len cap' lo' hi' mx').run E.P w= .ok (l,h,if mx.isNone then cap' else m) w)∧l≤h∧h≤m∧m≤cap∧(mx=none→m=cap):=by
 unfold boundsA at e
 split at e
 · simp at e
 rename_i m0 hm0
 have hm:(∀w,(match mx' with | some v=>Instr.sliceBound v cap' (if isS then .slice3Acap else .slice3Alen) | none=>pure cap':Sem Nat).run E.P w= .ok (if mx.isNone then cap' else m0) w)∧m0≤cap∧(mx=none→m0=cap):=by
  cases mx with
  | none=>
    cases mx' with
    | some _=>exact hmx.elim
    | none=>simp at hm0;subst hm0;exact ⟨fun w=>rfl,Nat.le_refl _,fun _=>rfl⟩
  | some v=>
    cases mx' with
    | none=>exact hmx.elim
    | some v'=>
      have:=fun code=>boundA_run (E:=E) hm0 (show VR φ v v' from hmx) hc code
      exact ⟨(this _).1,(this .index).2,fun e=>by simp at e⟩
 split at e
 · simp at e
 rename_i h0 hh0
 have hmle:m0≤(if mx.isNone then cap' else m0):=by split<;>omega
 have hh:(∀w,(match hi',mx' with | some v,some _=>Instr.sliceBound v (if mx.isNone then cap' else m0) .slice3B | some v,none=>Instr.sliceBound v (if mx.isNone then cap' else m0) (if isS then .sliceAcap else .sliceAlen) | none,none=>pure len | none,some _=>stuck "Slice: max without high" :Sem Nat).run E.P w= .ok h0 w)∧h0≤m0:=by
  cases hi with
  | none=>
    cases hi' with
    | some _=>exact hhi.elim
    | none=>
      cases mx with
      | some _=>simp at hh0
      | none=>
        cases mx' with
        | some _=>exact hmx.elim
        | none=>simp at hh0;subst hh0;exact ⟨fun w=>rfl,by have:=hm.2.2 rfl;omega⟩
  | some v=>
    cases hi' with
    | none=>exact hhi.elim
    | some v'=>
      have:=fun code=>boundA_run (E:=E) hh0 (show VR φ v v' from hhi) hmle code
      cases mx' with
      | none=>exact ⟨(this _).1,(this .index).2⟩
      | some _=>exact ⟨(this _).1,(this .index).2⟩
 split at e
 · simp at e
 rename_i l0 hl0
 simp at e
 obtain ⟨rfl,rfl,rfl⟩:=e
 have hl:(∀w,(match lo' with | some v=>Instr.sliceBound v h0 (if mx'.isSome then .slice3C else .sliceB) | none=>pure 0:Sem Nat).run E.P w= .ok l0 w)∧l0≤h0:=by
  cases lo with
  | none=>
    cases lo' with
    | some _=>exact hlo.elim
    | none=>simp at hl0;subst hl0;exact ⟨fun w=>rfl,by omega⟩
  | some v=>
    cases lo' with
    | none=>exact hlo.elim
    | some v'=>
      have:=fun code=>boundA_run (E:=E) hl0 (show VR φ v v' from hlo) (Nat.le_refl _) code
      exact ⟨(this _).1,(this .index).2⟩
 refine ⟨fun w=>?_,hl.2,hh.2,hm.2.1,hm.2.2⟩
 rw[sliceBounds_eq,Sem.run_bind,hm.1 w,Result.andThen_ok,Sem.run_bind,hh.1 w,Result.andThen_ok,Sem.run_bind,hl.1 w]
 rfl
theorem add_off (b o n:Nat):(⟨b,o,none⟩:Addr).add n=⟨b,o+n,none⟩:=Addr.add_mid b o n
theorem sliceA_run {φ:Ph} {t:TypeId} {x v:AV} {lo hi mx:Option AV} (e:sliceA E t x lo hi mx=some v) {x':Value} {lo' hi' mx':Option Value}
 (hx:VR φ x x') (hlo:OptR φ lo lo') (hhi:OptR φ hi hi') (hmx:OptR φ mx mx'):∃v',VR φ v v'∧∀w,(Instr.sliceAt t x' lo' hi' mx').run E.P w= .ok v' w:=by
 unfold sliceA at e
 split at e
 ·
  rename_i n elem i o hu
  cases hx with
  | @ptr _ l _ hφ=>
  split at e
  · rename_i l0 h0 m0 size hb hs
    simp at e;subst e
    obtain ⟨hr,h1,h2,h3,h4⟩:=boundsA_run (E:=E) hb hlo hhi hmx (Nat.le_refl n) false (Nat.le_refl n)
    have hm:(if mx.isNone then n else m0)=m0:=by
     cases mx with
     | none=>simp [h4 rfl]
     | some _=>rfl
    rw[hm] at hr
    refine ⟨_,.slice (if m0=l0 then o else o+l0*size) (h0 - l0) (m0 - l0) false hφ,fun w=>?_⟩
    simp only[Instr.sliceAt,Sem.run_bind,run_underlying hu,Result.andThen_ok,Instr.sureAddr,Sem.run_pure,hr w,run_size hs,capOf,Bool.false_eq_true,if_false]
    by_cases hml:m0=l0
    · simp [hml]
    · simp only[hml,if_false,add_off];rw[Nat.add_assoc]
  · simp at e
 ·
  rename_i s hu
  split at e
  · rename_i l0 h0 m0 hb
    simp at e;subst e
    generalize hs:s=s0 at hx hb
    cases hx with
    | str s'=>
    subst hs
    have e1:s'.size=s'.data.toList.length:=by cases s';rfl
    cases mx' with
    | some _=>exact hmx.elim
    | none=>
    obtain ⟨hr,h1,h2,h3,h4⟩:=boundsA_run (E:=E) (mx:=none) (mx':=none) hb hlo hhi trivial (Nat.le_refl _) false (Nat.le_refl _)
    refine ⟨.string (s'.extract l0 h0),?_,fun w=>?_⟩
    · have:=VR.str (φ:=φ) (s'.extract l0 h0)
      have e2:(s'.extract l0 h0).data.toList=(s'.data.toList.drop l0).take (h0 - l0):=by
       exact Lib.extract_data s' l0 h0
      rw[e2] at this;exact this
    · have hr':=hr w
      rw[←e1] at hr'
      simp only[Instr.sliceAt,Instr.slice,Sem.run_bind,run_underlying hu,Result.andThen_ok,Option.isSome_none,Bool.false_eq_true,if_false,hr',Sem.run_pure]
  · simp at e
 ·
  rename_i elem hu
  cases hx
  split at e
  · rename_i r size hb hs
    simp at e;subst e
    obtain ⟨l0,h0,m0⟩:=r
    obtain ⟨hr,h1,h2,h3,h4⟩:=boundsA_run (E:=E) hb hlo hhi hmx (Nat.le_refl _) true (Nat.le_refl _)
    have hm:(if mx.isNone then 0 else m0)=0:=by split<;>omega
    rw[hm] at hr
    refine ⟨_,.nilslice,fun w=>?_⟩
    obtain rfl:l0=0:=by omega
    obtain rfl:h0=0:=by omega
    simp only[Instr.sliceAt,Instr.slice,Sem.run_bind,run_underlying hu,Result.andThen_ok,hr w,run_size hs,if_true,Sem.run_pure]
  · simp at e
 · rename_i elem i o len cap op hu
   cases hx with
   | @slice _ l _ _ _ _ hφ=>
   split at e
   · rename_i hlc
     split at e
     · rename_i l0 h0 m0 size hb hs
       have hcc:cap≤capOf op cap l.slack:=by unfold capOf;split<;>omega
       obtain ⟨hr,h1,h2,h3,h4⟩:=boundsA_run (E:=E) hb hlo hhi hmx hcc true hlc
       have run:∀w,(Instr.sliceAt t (.slice (some ⟨l.blk,l.off+o,none⟩) len (capOf op cap l.slack)) lo' hi' mx').run E.P w=
        .ok (.slice (if (if mx.isNone then capOf op cap l.slack else m0)=l0 then some ⟨l.blk,l.off+o,none⟩ else some ⟨l.blk,l.off+o+l0*size,none⟩) (h0 - l0) ((if mx.isNone then capOf op cap l.slack else m0) - l0)) w:=fun w=>by
        simp only[Instr.sliceAt,Instr.slice,Sem.run_bind,run_underlying hu,Result.andThen_ok,hr w,run_size hs,Sem.run_pure,Option.map_some,add_off]
       split at e
       · rename_i hml
         split at e
         · rename_i hop
           have hmn:mx.isNone=true:=by simp at hop;simpa using hop.2
           simp only[Option.some.injEq] at e;subst e
           have e0:h0 - l0=0:=by omega
           rw[e0] at run
           by_cases hq:(if mx.isNone then capOf op cap l.slack else m0)=l0
           · exact ⟨_,.zslice _ _,fun w=>by rw[run w,if_pos hq]⟩
           · exact ⟨_,.zslice _ _,fun w=>by rw[run w,if_neg hq]⟩
         · rename_i hop
           simp at e;subst e
           have hcm:(if mx.isNone then capOf op cap l.slack else m0)=m0:=by
            cases hmn:mx with
            | none=>subst hmn;simp at hop;subst hop;simp [capOf,h4 rfl]
            | some _=>rfl
           rw[hcm,if_pos hml] at run
           exact ⟨_,.slice o (h0 - l0) (m0 - l0) false hφ,run⟩
       · rename_i hml
         simp only[Option.some.injEq] at e;subst e
         have hne:¬(if mx.isNone then capOf op cap l.slack else m0)=l0:=by
          split
          · rename_i hmn;have:=h4 (by simpa using hmn);omega
          · exact hml
         rw[if_neg hne,Nat.add_assoc] at run
         refine ⟨_,?_,run⟩
         have:=VR.slice (φ:=φ) (o+l0*size) (h0 - l0) (m0 - l0) (op&&mx.isNone) hφ
         have e2:capOf (op&&mx.isNone) (m0 - l0) l.slack=(if mx.isNone then capOf op cap l.slack else m0) - l0:=by
          cases hmn:mx with
          | none=>
            have h5:=h4 hmn
            cases op with
            | true=>simp [capOf];omega
            | false=>simp [capOf];omega
          | some _=>simp [capOf]
         rw[e2] at this;exact this
     · simp at e
   · simp at e
 · simp at e
end Go.Ab
end
section
namespace Go.Ab
variable {E:Env}
theorem zipIdx_foldl_set:∀(l:List Value) (k off:Nat) (C:Array Value),(l.zipIdx k).foldl (fun cs (x:Value×Nat)=>cs.setIfInBounds (off+x.2) x.1) C=setArr C (off+k) l
 | [],_,_,_=>rfl
 | v::vs,k,off,C=>by
   rw[List.zipIdx_cons,List.foldl_cons,zipIdx_foldl_set vs (k+1) off,setArr,Nat.add_assoc]
theorem LR.setFrom {φ:Ph}:∀{vs:List AV} {vs':List Value} (_:LR φ vs vs') {cs:List AV} {C:Array Value} (_:LR φ cs C.toList) (o:Nat),LR φ (Ab.setFrom cs o vs) (setArr C o vs').toList
 | [],vs',hv,cs,C,hc,o=>by rw[hv.nil_inv];exact hc
 | v::vs,vs',hv,cs,C,hc,o=>by
   obtain ⟨y,ys,rfl,hy,hys⟩:=hv.uncons
   rw[Ab.setFrom,setArr]
   refine LR.setFrom hys ?_ (o+1)
   rw[Array.toList_setIfInBounds]
   exact hc.set hy o
def PR (φ:Ph) (ps:List (Nat×AV)) (qs:List (Nat×Value)):Prop:=ps.length=qs.length∧∀(i:Nat) (x:Nat×AV) (y:Nat×Value),ps[i]? =some x→qs[i]? =some y→x.1=y.1∧VR φ x.2 y.2
theorem PR.uncons {φ:Ph} {x:Nat×AV} {xs:List (Nat×AV)} {ys:List (Nat×Value)} (h:PR φ (x::xs) ys):∃y ys',ys=y::ys'∧(x.1=y.1∧VR φ x.2 y.2)∧PR φ xs ys':=by
 obtain ⟨hl,hv⟩:=h
 cases ys with
 | nil=>simp at hl
 | cons y ys=>exact ⟨y,ys,rfl,hv 0 x y (by simp) (by simp),by simpa using hl,fun i a b ha hb=>hv (i+1) a b (by simpa using ha) (by simpa using hb)⟩
theorem partsA_PR {φ:Ph} (hg:GL E φ) {ts:List AV} {a:Act} (ht:LR φ ts a.tmps.toList):∀{l:List (Nat×Operand)} {r:List (Nat×AV)} (_:partsA E ts l=some r),PR φ r (l.map fun (i,x)=>(i,a.eval x))
 | [],r,h=>by simp [partsA] at h;subst h;exact ⟨rfl,fun i x y hx _=>by simp at hx⟩
 | (i,o)::rest,r,h=>by
   simp only[partsA] at h
   cases hv:evs E ts o with
   | none=>simp [hv] at h
   | some v=>
     simp only[hv] at h
     cases hr:partsA E ts rest with
     | none=>simp [hr] at h
     | some l=>
       simp only[hr,Option.some.injEq] at h;subst h
       obtain ⟨h1,h2⟩:=partsA_PR hg ht hr
       refine ⟨by simpa using h1,fun j x y hx hy=>?_⟩
       cases j with
       | zero=>simp at hx hy;subst hx;subst hy;exact ⟨rfl,evs_VR hg ht hv⟩
       | succ j=>simp at hx;exact h2 j x y hx (by simpa using hy)
theorem fillA_run {φ:Ph} {place:Nat→Option (Nat×Nat)}:∀{ps:List (Nat×AV)} {qs:List (Nat×Value)} (_:PR φ ps qs) {cs cs':List AV} {C:Array Value} (_:LR φ cs C.toList) (_:fillA place cs ps=some cs'),
 ∃C',Instr.fill place C qs=some C'∧LR φ cs' C'.toList
 | [],qs,hp,cs,cs',C,hc,h=>by
   cases qs with
   | nil=>simp [fillA] at h;subst h;exact ⟨C,rfl,hc⟩
   | cons q qs=>simp [PR] at hp
 | (i,v)::rest,qs,hp,cs,cs',C,hc,h=>by
   obtain ⟨⟨j,v'⟩,qs',rfl,⟨he,hv⟩,hrest⟩:=hp.uncons
   simp only at he hv;subst he
   simp only[fillA] at h
   simp only[Instr.fill]
   cases hpl:place i with
   | none=>simp [hpl] at h
   | some x=>
     obtain ⟨off,size⟩:=x
     simp only[hpl] at h ⊢
     split at h
     · rename_i hcnd
       have hcells:=hv.cells
       have hl:v'.cells.size=size:=by have:=hcells.1;simp at this;omega
       have hCs:C.size=cs.length:=by have:=hc.1;simp at this;omega
       have hno:(decide (v'.cells.size≠size)||decide (off+v'.cells.size>C.size))=false:=by
        simp only[Bool.or_eq_false_iff,decide_eq_false_iff_not];omega
       simp only[hno,Bool.false_eq_true,if_false]
       have hfold:(v'.cells.zipIdx.foldl (fun cs (x:Value×Nat)=>cs.setIfInBounds (off+x.2) x.1) C)=setArr C off v'.cells.toList:=by
        rw[←Array.foldl_toList]
        have:=zipIdx_foldl_set v'.cells.toList 0 off C
        simpa using this
       rw[hfold]
       exact fillA_run hrest (LR.setFrom hcells hc off) h
     · simp at h
theorem buildA_run {φ:Ph} {t:TypeId} {ps:List (Nat×AV)} {v:AV} (h:buildA E t ps=some v) {qs:Array (Nat×Value)} (hp:PR φ ps qs.toList):
 ∃v',VR φ v v'∧∀w,(Instr.build t qs).run E.P w= .ok v' w:=by
 unfold buildA at h
 split at h
 · simp at h
 rename_i z hz
 obtain ⟨z',hzr,hzrun⟩:=zeroT_run hz
 split at h
 · rename_i fs hu
   split at h
   · simp at h
   rename_i pl hpl
   split at h
   · rename_i cs hf
     simp at h;subst h
     have places:∀w,(fs.mapM fun f=>do pure (f.offset,←sizeOf f.type):Sem (Array (Nat×Nat))).run E.P w= .ok pl.toArray w:=by
      intro w
      have key:∀(l:List Field) (r:List (Nat×Nat)),mapAll (fun f=>match sizeT E f.type with | some n=>some (f.offset,n) | none=>none) l=some r→
       (l.mapM fun f=>do pure (f.offset,←sizeOf f.type):Sem (List (Nat×Nat))).run E.P w= .ok r w:=by
       intro l
       induction l with
       | nil=>intro r hr;simp [mapAll] at hr;subst hr;rfl
       | cons f l ih=>
         intro r hr
         simp only[mapAll] at hr
         cases hs:sizeT E f.type with
         | none=>simp [hs] at hr
         | some n=>
           simp only[hs] at hr
           cases hm:mapAll (fun f=>match sizeT E f.type with | some n=>some (f.offset,n) | none=>none) l with
           | none=>simp [hm] at hr
           | some ys=>
             simp only[hm,Option.some.injEq] at hr;subst hr
             simp only[List.mapM_cons,Sem.run_bind,run_size hs,Result.andThen_ok,Sem.run_pure,ih ys hm]
      have:=key fs.toList pl hpl
      have hh:(fs.mapM fun f=>do pure (f.offset,←sizeOf f.type):Sem (Array (Nat×Nat)))=(do pure (←(fs.toList.mapM fun f=>do pure (f.offset,←sizeOf f.type):Sem (List (Nat×Nat)))).toArray):=by
       rw[Array.mapM_eq_mapM_toList];rfl
      rw[hh,Sem.run_bind,this];rfl
     obtain ⟨C',hfill,hlr⟩:=fillA_run (place:=(pl[·]?)) hp (cs:=z.cells) (C:=z'.cells) (hzr φ).cells hf
     refine ⟨.agg C',by have:=VR.agg' hlr;simpa using this,fun w=>?_⟩
     simp only[Instr.build,Sem.run_bind,hzrun,Result.andThen_ok,run_underlying hu,places w]
     simp [hfill]
   · simp at h
 · rename_i n elem hu
   split at h
   · simp at h
   rename_i n hn
   split at h
   · rename_i cs hf
     simp at h;subst h
     obtain ⟨C',hfill,hlr⟩:=fillA_run (place:=fun i=>some (i*n,n)) hp (cs:=z.cells) (C:=z'.cells) (hzr φ).cells hf
     refine ⟨.agg C',by have:=VR.agg' hlr;simpa using this,fun w=>?_⟩
     simp [Instr.build,Sem.run_bind,hzrun,run_underlying hu,run_size hn,hfill]
   · simp at h
 · simp at h
theorem maxA_run {φ:Ph}:∀{l:List AV} {x v:AV} (_:maxA x l=some v) {x':Value} (_:VR φ x x') {l':List Value} (_:LR φ l l'),∃v',VR φ v v'∧∀w,(l'.foldlM Builtin.max2 x').run E.P w= .ok v' w
 | [],x,v,h,x',hx,l',hl=>by
   rw[hl.nil_inv]
   cases x<;>simp [maxA] at h
   subst h;exact ⟨x',hx,fun w=>rfl⟩
 | y::ys,x,v,h,x',hx,l',hl=>by
   obtain ⟨y',ys',rfl,hy,hys⟩:=hl.uncons
   cases x<;>(try (simp [maxA] at h;done))
   cases y<;>(try (simp [maxA] at h;done))
   cases hx;cases hy
   simp only[maxA] at h
   obtain ⟨v',hv,hr⟩:=maxA_run h (.int _ _) hys
   refine ⟨v',hv,fun w=>?_⟩
   simp only[List.foldlM_cons,Builtin.max2,Sem.run_bind,Sem.run_pure,Result.andThen_ok,hr w]
theorem minA_run {φ:Ph}:∀{l:List AV} {x v:AV} (_:minA x l=some v) {x':Value} (_:VR φ x x') {l':List Value} (_:LR φ l l'),∃v',VR φ v v'∧∀w,(l'.foldlM Builtin.min2 x').run E.P w= .ok v' w
 | [],x,v,h,x',hx,l',hl=>by
   rw[hl.nil_inv]
   cases x<;>simp [minA] at h
   subst h;exact ⟨x',hx,fun w=>rfl⟩
 | y::ys,x,v,h,x',hx,l',hl=>by
   obtain ⟨y',ys',rfl,hy,hys⟩:=hl.uncons
   cases x<;>(try (simp [minA] at h;done))
   cases y<;>(try (simp [minA] at h;done))
   cases hx;cases hy
   simp only[minA] at h
   obtain ⟨v',hv,hr⟩:=minA_run h (.int _ _) hys
   refine ⟨v',hv,fun w=>?_⟩
   simp only[List.foldlM_cons,Builtin.min2,Sem.run_bind,Sem.run_pure,Result.andThen_ok,hr w]
theorem map_toArray (f:Operand→Value) (l:Array Operand):l.map f=(l.toList.map f).toArray:=by apply Array.ext';simp
def ExtOK (E:Env):Prop:=∀f e,E.pureExt f=some e→∀vs r,e vs=some r→∀φ (vs':List Value),LR φ vs vs'→
 ∃r',VR φ r r'∧∀w,(callFunc f vs'.toArray).run E.P w= .ok (.value r') w
theorem run_v {s:Sem Value} {v:Value} {P:Program} {w w':World} (h:s.run P w= .ok v w'):(do pure (.value (←s)):Sem Next).run P w= .ok (.value v) w':=by
 rw[Sem.run_bind,h];rfl
theorem optOp_R {φ:Ph} (hg:GL E φ) {ts:List AV} {a:Act} (ht:LR φ ts a.tmps.toList) {o:Option Operand} {r:Option AV} (h:optOp E ts o=some r):OptR φ r (o.map a.eval):=by
 cases o with
 | none=>simp [optOp] at h;subst h;trivial
 | some o=>
   simp only[optOp] at h
   split at h
   · rename_i v hv;simp at h;subst h;exact evs_VR hg ht hv
   · simp at h
theorem typeAssert_hit {P:Program} {t:TypeId} {d:TypeDesc} (hu:P.underlying t=some d) (hd:∀m,d= .interface m→False) (v:Value) (xT:TypeId) (ok:Bool) (w:World):
 (Instr.typeAssert (.iface t v) xT t ok).run P w= .ok (if ok then .tuple #[v,.bool true] else v) w:=by
 rw[Instr.typeAssert,Sem.run_bind,run_underlying hu]
 cases d<;>first | (exact (hd _ rfl).elim) | (simp;done)
theorem typeAssert_miss {P:Program} {t u:TypeId} {d:TypeDesc} (hu:P.underlying t=some d) (hd:∀m,d= .interface m→False) (v:Value) (xT:TypeId) (hne:u≠t) {z:Value} (w:World) (hz:(zeroValue t).run P w= .ok z w):
 (Instr.typeAssert (.iface u v) xT t true).run P w= .ok (.tuple #[z,.bool false]) w:=by
 rw[Instr.typeAssert,Sem.run_bind,run_underlying hu]
 cases d<;>first | (exact (hd _ rfl).elim) | (simp [hne,hz];done)
theorem typeAssert_nil {P:Program} {t:TypeId} {d:TypeDesc} (hu:P.underlying t=some d) (hd:∀m,d= .interface m→False) (xT:TypeId) {z:Value} (w:World) (hz:(zeroValue t).run P w= .ok z w):
 (Instr.typeAssert .nilIface xT t true).run P w= .ok (.tuple #[z,.bool false]) w:=by
 rw[Instr.typeAssert,Sem.run_bind,run_underlying hu]
 cases d<;>first | (exact (hd _ rfl).elim) | (simp [hz];done)
set_option maxHeartbeats 1000000 in
theorem pureA_sound (hext:ExtOK E) {φ:Ph} (hg:GL E φ) {ts:List AV} {a:Act} (ht:LR φ ts a.tmps.toList) {o:Oper} {v:AV} (h:pureA E ts o.op=some v):
 ∃v',VR φ v v'∧∀w,(execOp a.eval o).run E.P w= .ok (.value v') w:=by
 have ev:∀{x:Operand} {v:AV},evs E ts x=some v→VR φ v (a.eval x):=fun h=>evs_VR hg ht h
 unfold execOp
 generalize o.op=op at h ⊢
 unfold pureA at h
 split at h
 · exact ⟨_,ev h,fun w=>rfl⟩
 · exact ⟨_,ev h,fun w=>rfl⟩
 ·
  split at h
  · rename_i hc
    have:=ev hc
    generalize hcv:a.eval _=cv at this
    cases this
    exact ⟨_,ev h,fun w=>by simp [hcv,asBool]⟩
  · rename_i hc
    have:=ev hc
    generalize hcv:a.eval _=cv at this
    cases this
    exact ⟨_,ev h,fun w=>by simp [hcv,asBool]⟩
  · simp at h
 ·
  rename_i t parts
  split at h
  · rename_i ps hps
    have hp:=partsA_PR hg ht hps
    obtain ⟨v',hv,hr⟩:=buildA_run (φ:=φ) h (qs:=parts.map fun (i,x)=>(i,a.eval x)) (by simpa using hp)
    exact ⟨v',hv,fun w=>run_v (hr w)⟩
  · simp at h
 ·
  split at h<;>(try (simp at h;done))
  all_goals
   rename_i hx
   have:=ev hx
   generalize hcv:a.eval _=cv at this
   cases this
   simp only[Option.some.injEq] at h;subst h
   first
    | exact ⟨_,.ptr _ ‹_›,fun w=>by simp [hcv]⟩
    | exact ⟨_,.map ‹_›,fun w=>by simp [hcv]⟩
    | exact ⟨_,.slice _ _ _ _ ‹_›,fun w=>by simp [hcv]⟩
    | exact ⟨_,.func _ _ _ _ _ ‹_› ‹_› ‹_› ‹_›,fun w=>by simp [hcv]⟩
 ·
  split at h
  · rename_i hx hy
    obtain ⟨v',hv,hr⟩:=binA_run h (ev hx) (ev hy)
    exact ⟨v',hv,fun w=>run_v (hr w)⟩
  · simp at h
 ·
  split at h
  · rename_i hx
    obtain ⟨v',hv,hr⟩:=unA_run (E:=E) h (ev hx)
    exact ⟨v',hv,fun w=>run_v (hr w)⟩
  · simp at h
 ·
  split at h
  · rename_i hs hd hx
    have:=ev hx
    generalize hcv:a.eval _=cv at this
    cases this
    simp at h;subst h
    refine ⟨_,.int _ _,fun w=>run_v ?_⟩
    simp [hcv,convert,run_underlying hs,run_underlying hd,Conv.intToInt]
  · rename_i d s hs hd hx
    have:=ev hx
    generalize hcv:a.eval _=cv at this
    simp at h;subst h
    generalize hss:s=s0 at this
    cases this
    subst hss
    refine ⟨_,.str _,fun w=>run_v ?_⟩
    simp [hcv,convert,run_underlying hs,run_underlying hd]
  · rename_i d k n hs hd hx
    have:=ev hx
    generalize hcv:a.eval _=cv at this
    cases this
    unfold intStrA at h
    split at h
    · rename_i h0
      simp at h;subst h
      have he:Utf8.encode n=⟨#[UInt8.ofNat n.toNat]⟩:=by
       have hv:Utf8.valid n=true:=by simp [Utf8.valid];omega
       have h1:n.toNat<0x80:=by omega
       simp [Utf8.encode,hv,h1]
      refine ⟨.string ⟨#[UInt8.ofNat n.toNat]⟩,.str ⟨#[UInt8.ofNat n.toNat]⟩,fun w=>run_v ?_⟩
      rw[←he]
      cases d<;>simp [hcv,convert,run_underlying hs,run_underlying hd,Conv.intToString]
    · simp at h
  · simp at h
 ·
  split at h
  · simp at h
  · rename_i d v0 hn hu hx
    simp at h;subst h
    refine ⟨_,.iface _ _ _ (ev hx),fun w=>run_v ?_⟩
    rw[Instr.makeInterface,Sem.run_bind,run_underlying hu]
    cases d<;>first | (exact (hn _ rfl).elim) | rfl
  · simp at h
 ·
  rename_i f first captured
  split at h
  · rename_i ha hb
    simp at h;subst h
    have h1:=evAll_LR hg ht ha
    have h2:=evAll_LR hg ht hb
    refine ⟨.func (.func f) (first.map a.eval) (captured.map a.eval),?_,fun w=>run_v rfl⟩
    rw[map_toArray,map_toArray]
    exact VR.func' f h1 h2
  · simp at h
 ·
  split at h
  · rename_i hx hl hh hm
    obtain ⟨v',hv,hr⟩:=sliceA_run h (ev hx) (optOp_R hg ht hl) (optOp_R hg ht hh) (optOp_R hg ht hm)
    exact ⟨v',hv,fun w=>run_v (hr w)⟩
  · simp at h
 ·
  split at h
  · rename_i fd i o0 hf hx
    split at h
    · rename_i n hn
      split at h
      · simp at h
      · rename_i hn0
        simp at h;subst h
        have:=ev hx
        generalize hcv:a.eval _=cv at this
        cases this with
        | @ptr _ l _ hφ=>
        refine ⟨_,.ptr _ hφ,fun w=>run_v ?_⟩
        unfold fieldsAt at hf
        split at hf
        · rename_i fs hu
          simp [hcv,Instr.fieldAt,run_underlying hu,hf,Instr.sureAddr,fieldPlace,run_size hn,hn0,add_off,Nat.add_assoc]
        · simp at hf
    · simp at h
  · simp at h
 ·
  split at h
  · rename_i fd cs hf hx
    have:=ev hx
    generalize hcv:a.eval _=cv at this
    obtain ⟨cs',rfl,hlr⟩:=this.agg_inv
    obtain ⟨v',hv,hr⟩:=partT_run hlr h
    refine ⟨v',hv,fun w=>run_v ?_⟩
    unfold fieldsAt at hf
    split at hf
    · rename_i fs hu
      have:=hr w
      simp [hcv,Instr.field,run_underlying hu,hf,asAgg] at this ⊢
      exact this
    · simp at hf
  · simp at h
 ·
  split at h
  · rename_i len elem i o0 k n hu hx hi
    split at h
    · rename_i size hs
      split at h
      · rename_i hb
        simp at h;subst h
        have h1:=ev hx
        have h2:=ev hi
        generalize hcv:a.eval _=cv at h1
        generalize hcw:a.eval _=cw at h2
        cases h1 with
        | @ptr _ l _ hφ=>
        cases h2
        refine ⟨_,.ptr _ hφ,fun w=>run_v ?_⟩
        simp [hcv,hcw,Instr.indexAt,asIntOf,run_underlying hu,Instr.sureAddr,hb,run_size hs,add_off,Nat.add_assoc]
      · simp at h
    · simp at h
  · rename_i elem i o0 len cap op k n hu hx hi
    split at h
    · rename_i size hs
      split at h
      · rename_i hb
        simp at h;subst h
        have h1:=ev hx
        have h2:=ev hi
        generalize hcv:a.eval _=cv at h1
        generalize hcw:a.eval _=cw at h2
        cases h1 with
        | @slice _ l _ _ _ _ hφ=>
        cases h2
        refine ⟨_,.ptr _ hφ,fun w=>run_v ?_⟩
        simp [hcv,hcw,Instr.indexAt,asIntOf,run_underlying hu,hb,run_size hs,add_off,Nat.add_assoc]
      · simp at h
    · simp at h
  · simp at h
 ·
  split at h
  · rename_i len elem cs k n hu hx hi
    split at h
    · rename_i size hs
      split at h
      · rename_i hb
        have h1:=ev hx
        have h2:=ev hi
        generalize hcv:a.eval _=cv at h1
        generalize hcw:a.eval _=cw at h2
        obtain ⟨cs',rfl,hlr⟩:=h1.agg_inv
        cases h2
        obtain ⟨v',hv,hr⟩:=partT_run hlr h
        refine ⟨v',hv,fun w=>run_v ?_⟩
        have:=hr w
        simp [hcv,hcw,Instr.index,asIntOf,run_underlying hu,hb,run_size hs] at this ⊢
        exact this
      · simp at h
    · simp at h
  · rename_i s k n hu hx hi
    split at h
    · rename_i hn
      split at h
      · rename_i b hb
        simp at h;subst h
        have h1:=ev hx
        have h2:=ev hi
        generalize hcv:a.eval _=cv at h1
        generalize hcw:a.eval _=cw at h2
        generalize hss:s=s0 at h1
        cases h1 with
        | str s'=>
        subst hss
        cases h2
        refine ⟨_,.int _ _,fun w=>run_v ?_⟩
        have hb':s'[n.toNat]? =some b:=by
         have:s'.data[n.toNat]? =some b:=by simpa using hb
         rw[←this];rfl
        simp [hcv,hcw,Instr.index,asIntOf,run_underlying hu,hn,hb']
      · simp at h
    · simp at h
  · simp at h
 ·
  split at h
  · rename_i vs hx
    have h1:=ev hx
    generalize hcv:a.eval _=cv at h1
    obtain ⟨vs',rfl,hlr⟩:=h1.tuple_inv
    obtain ⟨y,hy,hv⟩:=hlr.get h
    refine ⟨y,hv,fun w=>run_v ?_⟩
    simp at hy
    simp [hcv,Instr.extract,hy]
  · simp at h
 ·
  split at h
  · simp at h
  · rename_i d t v0 hn hu hx
    have h1:=ev hx
    generalize hcv:a.eval _=cv at h1
    cases h1 with
    | iface _ _ v1 hv1=>
    split at h
    · rename_i hta
      subst hta
      simp at h;subst h
      split
      · rename_i hok
        refine ⟨.tuple #[v1,.bool true],VR.tuple' (cs':=[v1,.bool true]) (.cons hv1 (.cons (.bool true) (.nil φ))),fun w=>run_v ?_⟩
        rw[hcv,typeAssert_hit hu hn,hok];rfl
      · rename_i hok
        refine ⟨v1,hv1,fun w=>run_v ?_⟩
        rw[hcv,typeAssert_hit hu hn];simp [hok]
    · rename_i hta
      split at h
      · rename_i hok
        split at h
        · rename_i z hz
          simp at h;subst h
          obtain ⟨z',hzr,hzrun⟩:=zeroT_run hz
          refine ⟨.tuple #[z',.bool false],VR.tuple' (cs':=[z',.bool false]) (.cons (hzr φ) (.cons (.bool false) (.nil φ))),fun w=>run_v ?_⟩
          rw[hcv,hok];exact typeAssert_miss hu hn _ _ hta w (hzrun w)
        · simp at h
      · simp at h
  · rename_i d hn hu hx
    have h1:=ev hx
    generalize hcv:a.eval _=cv at h1
    cases h1
    split at h
    · rename_i hok
      split at h
      · rename_i z hz
        simp at h;subst h
        obtain ⟨z',hzr,hzrun⟩:=zeroT_run hz
        refine ⟨.tuple #[z',.bool false],VR.tuple' (cs':=[z',.bool false]) (.cons (hzr φ) (.cons (.bool false) (.nil φ))),fun w=>run_v ?_⟩
        rw[hcv,hok];exact typeAssert_nil hu hn _ w (hzrun w)
      · simp at h
    · simp at h
  · simp at h
 ·
  split at h
  · rename_i t v0 htp hvs
    have hl:=evAll_LR hg ht hvs
    obtain ⟨y,ys,hys,hy,hnil⟩:=hl.uncons
    rw[hnil.nil_inv] at hys
    have hargs:∀(args:Array Operand),args.toList.map a.eval=[y]→args.map a.eval= #[y]:=fun args e=>by rw[map_toArray,e]
    have h0:=hargs _ hys
    split at h<;>(try (simp at h;done))
    all_goals
     rename_i hu
     simp only[Option.some.injEq] at h;subst h
    · generalize hss:AV.str _=s0 at hy
      cases hy<;>cases hss
      rename_i s'
      refine ⟨_,.int _ _,fun w=>?_⟩
      simp [resolve,invoke,builtin,h0,Builtin.len_,htp,run_underlying hu,goInt]
      try rfl
    · refine ⟨_,.int _ _,fun w=>?_⟩
      simp [resolve,invoke,builtin,h0,Builtin.len_,htp,run_underlying hu,goInt]
    · cases hy
      refine ⟨_,.int _ _,fun w=>?_⟩
      simp [resolve,invoke,builtin,h0,Builtin.len_,htp,run_underlying hu,goInt]
    · cases hy
      refine ⟨_,.int _ _,fun w=>?_⟩
      simp [resolve,invoke,builtin,h0,Builtin.len_,htp,run_underlying hu,goInt]
    · cases hy
      refine ⟨_,.int _ _,fun w=>?_⟩
      simp [resolve,invoke,builtin,h0,Builtin.len_,htp,run_underlying hu,goInt]
    · cases hy
      refine ⟨_,.int _ _,fun w=>?_⟩
      simp [resolve,invoke,builtin,h0,Builtin.len_,htp,run_underlying hu,goInt]
  · simp at h
 ·
  split at h
  · rename_i t v0 htp hvs
    have hl:=evAll_LR hg ht hvs
    obtain ⟨y,ys,hys,hy,hnil⟩:=hl.uncons
    rw[hnil.nil_inv] at hys
    have hargs:∀(args:Array Operand),args.toList.map a.eval=[y]→args.map a.eval= #[y]:=fun args e=>by rw[map_toArray,e]
    have h0:=hargs _ hys
    split at h<;>(try (simp at h;done))
    all_goals
     rename_i hu
     simp only[Option.some.injEq] at h;subst h
    · refine ⟨_,.int _ _,fun w=>?_⟩
      simp [resolve,invoke,builtin,h0,Builtin.cap_,htp,run_underlying hu,goInt]
    · cases hy
      refine ⟨_,.int _ _,fun w=>?_⟩
      simp [resolve,invoke,builtin,h0,Builtin.cap_,htp,run_underlying hu,goInt]
    · cases hy
      refine ⟨_,.int _ _,fun w=>?_⟩
      simp [resolve,invoke,builtin,h0,Builtin.cap_,htp,run_underlying hu,goInt,capOf]
  · simp at h
 ·
  rename_i args _
  split at h
  · rename_i x rest hvs
    have hl:=evAll_LR hg ht hvs
    obtain ⟨y,ys,hys,hy,hrest⟩:=hl.uncons
    obtain ⟨v',hv,hr⟩:=maxA_run (E:=E) h hy hrest
    refine ⟨v',hv,fun w=>?_⟩
    have h0:args.map a.eval=(y::ys).toArray:=by rw[map_toArray,hys]
    have:=hr w
    simp [resolve,invoke,builtin,h0,Builtin.max_,this]
  · simp at h
 ·
  rename_i args _
  split at h
  · rename_i x rest hvs
    have hl:=evAll_LR hg ht hvs
    obtain ⟨y,ys,hys,hy,hrest⟩:=hl.uncons
    obtain ⟨v',hv,hr⟩:=minA_run (E:=E) h hy hrest
    refine ⟨v',hv,fun w=>?_⟩
    have h0:args.map a.eval=(y::ys).toArray:=by rw[map_toArray,hys]
    have:=hr w
    simp [resolve,invoke,builtin,h0,Builtin.min_,this]
  · simp at h
 ·
  rename_i f args _
  split at h
  · rename_i e vs he hvs
    have hl:=evAll_LR hg ht hvs
    obtain ⟨r',hr,hrun⟩:=hext f e he vs v h φ _ hl
    refine ⟨r',hr,fun w=>?_⟩
    have:=hrun w
    rw[←map_toArray] at this
    simpa [resolve,Deferred.ofValue,invoke,Act.eval] using this
  · simp at h
 · simp at h
end Go.Ab
end
section
namespace Go.Ab
variable {E:Env}
theorem OK.cells {φ:Ph} {h:Heap} {w:World} (ok:OK E φ h w) {i:Nat} {cs:List AV} {e:TypeId} {ro:Bool} (hg:h.get i=some (.cells cs e ro)) {l:Loc} (hl:φ i=some l):
 ∃C e' lo hi,w.heap[l.blk]? =some (.cells C e' (lo,hi))∧CR E φ cs e ro l C lo hi:=by
 exact ok.live i _ l hg hl
theorem loadA_run {φ:Ph} {h:Heap} {w:World} (ok:OK E φ h w) {t:TypeId} {av v:AV} {v':Value} (hv:VR φ av v') (e:loadA E h t av=some v):
 ∃x',VR φ v x'∧∀w',w'.heap=w.heap→(Instr.loadAt t v').run E.P w'= .ok x' w':=by
 unfold loadA at e
 split at e
 · rename_i i o
   cases hv with
   | @ptr _ l _ hφ=>
   split at e
   · rename_i cs el ro hg
     obtain ⟨C,e',lo,hi,hb,hc⟩:=ok.cells hg hφ
     unfold partT at e
     split at e
     · rename_i ha
       split at e
       · rename_i n hn
         split at e
         · rename_i hle
           simp at e;subst e
           obtain ⟨vs,hvl,hvv,hlr⟩:=hc.range o n hle
           refine ⟨.agg vs.toArray,VR.agg' hlr,fun w' hw'=>?_⟩
           rw[←hw'] at hb
           have hrow:=run_load_row (P:=E.P) hb (l.off+o) vs hvv
           rw[hvl] at hrow
           simp only[Instr.loadAt,Instr.sureAddr,Sem.run_bind,Sem.run_pure,Result.andThen_ok,loadVar,isAggT_run ha,if_true,run_size hn,hrow]
         · simp at e
       · simp at e
     · rename_i ha
       obtain ⟨y,hy,hr⟩:=hc.val o v e
       refine ⟨y,hr,fun w' hw'=>?_⟩
       rw[←hw'] at hb
       simp only[Instr.loadAt,Instr.sureAddr,Sem.run_bind,Sem.run_pure,Result.andThen_ok,loadVar,isAggT_run ha,Bool.false_eq_true,if_false,run_load,cell_of_heap hb,hy]
     · simp at e
   · simp at e
 · simp at e
theorem bytesOf_run {P:Program} (l:List Int):∀(vs:List Value) (acc:ByteArray) (w:World),vs=l.map (fun n=>Value.int .u8 n)→
 (forIn vs acc (fun c s=>(match c with | .int .u8 n=>do pure (ForInStep.yield (s.push (UInt8.ofNat n.toNat))) | _=>do stuck "bytesToString: byte expected";pure (ForInStep.yield s):Sem (ForInStep ByteArray)))).run P w= .ok ⟨(acc.data.toList++l.map (fun n=>UInt8.ofNat n.toNat)).toArray⟩ w:=by
 induction l with
 | nil=>intro vs acc w h;simp at h;subst h;simp [List.forIn_nil]
 | cons b l ih=>
   intro vs acc w h
   cases vs with
   | nil=>simp at h
   | cons v vs=>
     simp at h
     obtain ⟨rfl,hvs⟩:=h
     simp only[List.forIn_cons,Sem.run_bind,Sem.run_pure,Result.andThen_ok]
     rw[ih vs _ w hvs]
     simp [ByteArray.push]
theorem keyEq_now {φ:Ph} {d:TypeDesc} {k j:AV} {r:Bool} (hk:keyKind (some d) k=true) (e:keyEq k j=some r) {k' j':Value} (h:VR φ k k') (h':VR φ j j'):Instr.sameNow d k' j'=some r:=by
 unfold keyEq at e
 split at e
 · generalize hs:AV.str _=s at h
   generalize hs':AV.str _=s' at h'
   cases h<;>cases hs
   cases h'<;>cases hs'
   simp at e;subst e
   cases d<;>simp [keyKind] at hk
   rename_i s s'
   simp only[Instr.sameNow]
   congr 1
 · cases h;cases h'
   split at e
   · rename_i hkk
     simp at e;subst e;subst hkk
     cases d<;>simp [keyKind] at hk
     simp [Instr.sameNow]
   · simp at e
 · cases h;cases h'
   simp at e;subst e
   cases d<;>simp [keyKind] at hk
   simp [Instr.sameNow]
 · simp at e
theorem findA_run {φ:Ph} {d:TypeDesc} {k:AV} {k':Value} (hk:keyKind (some d) k=true) (h:VR φ k k'):∀{es:List AEntry} {es':List MapEntry} (_:ESR φ es es') {i:Nat} {r:Option (Nat×AV)} (_:findA k es i=some r),
 ∃r',Instr.findNow d k' es' i=some r'∧(match r,r' with | none,none=>True | some (j,v),some (j',v')=>j=j'∧VR φ v v'∧i≤j∧∃e,es[j - i]? =some e∧keyEq k e.key=some true | _,_=>False)
 | [],es',he,i,r,e=>by
   cases es' with
   | nil=>simp [findA] at e;subst e;exact ⟨none,rfl,trivial⟩
   | cons _ _=>simp [ESR] at he
 | x::es,es',he,i,r,e=>by
   obtain ⟨hl,hv⟩:=he
   cases es' with
   | nil=>simp at hl
   | cons y ys=>
     have hx:=hv 0 x y (by simp) (by simp)
     simp only[findA] at e
     split at e
     · rename_i heq
       simp at e;subst e
       refine ⟨some (i,y.val),?_,rfl,hx.val,Nat.le_refl _,x,by simp,heq⟩
       simp [Instr.findNow,keyEq_now hk heq h hx.key]
     · rename_i heq
       obtain ⟨r',h1,h2⟩:=findA_run hk h (es:=es) (es':=ys) ⟨by simpa using hl,fun i a b p q=>hv (i+1) a b (by simpa using p) (by simpa using q)⟩ e
       refine ⟨r',?_,?_⟩
       · simp [Instr.findNow,keyEq_now hk heq h hx.key,h1]
       · cases r with
         | none=>cases r' with
           | none=>trivial
           | some _=>exact h2
         | some p=>
           obtain ⟨j,v⟩:=p
           cases r' with
           | none=>exact h2
           | some q=>
             obtain ⟨j',v'⟩:=q
             obtain ⟨h3,h4,h5,e',h6,h7⟩:=h2
             refine ⟨h3,h4,by omega,e',?_,h7⟩
             rw[show j - i=(j -(i+1))+1 by omega];simpa using h6
     · simp at e
theorem checkKey_run {P:Program} {t:TypeId} {d:TypeDesc} (hu:P.underlying t=some d) {k:AV} (hk:keyKind (some d) k=true) {φ:Ph} {k':Value} (h:VR φ k k') (b:Bool) (n:Nat) (w:World):
 (Instr.checkKey b (n+1) t k').run P w= .ok () w:=by
 unfold Instr.checkKey
 rw[Sem.run_bind,run_underlying hu]
 cases d<;>simp [keyKind] at hk<;>cases h<;>first | rfl | (simp [keyKind] at hk)
theorem bytesToString_run {P:Program} {w:World} {a:Addr} {n:Nat} (l:List Int) (hl:(loadCells a n).run P w= .ok ((l.map (fun n=>Value.int .u8 n)).toArray) w) (c:Nat):
 (Conv.bytesToString (.slice (some a) n c)).run P w= .ok (.string ⟨(l.map (fun n=>UInt8.ofNat n.toNat)).toArray⟩) w:=by
 unfold Conv.bytesToString
 simp only[Sem.run_bind,hl,Result.andThen_ok]
 have:=bytesOf_run (P:=P) l (l.map (fun n=>Value.int .u8 n)) ByteArray.empty w rfl
 have e:forIn (m:=Sem) (l.map (fun n=>Value.int .u8 n)).toArray ByteArray.empty (fun c s=>(match c with | .int .u8 n=>do pure (ForInStep.yield (s.push (UInt8.ofNat n.toNat))) | _=>do stuck "bytesToString: byte expected";pure (ForInStep.yield s):Sem (ForInStep ByteArray)))
  =forIn (m:=Sem) (l.map (fun n=>Value.int .u8 n)) ByteArray.empty (fun c s=>(match c with | .int .u8 n=>do pure (ForInStep.yield (s.push (UInt8.ofNat n.toNat))) | _=>do stuck "bytesToString: byte expected";pure (ForInStep.yield s):Sem (ForInStep ByteArray))):=by
  rw[←Array.forIn_toList]
 rw[←e] at this
 refine (congrArg (fun r=>Result.andThen r fun a w'=>Sem.run P (pure (Value.string a)) w') this).trans ?_
 simp
theorem bytesAt_run {φ:Ph}:∀{cs:List AV} {vs:List Value} (_:LR φ cs vs) {l:List UInt8} (_:mapAll (fun | .int .u8 b=>some (UInt8.ofNat b.toNat) | _=>none) cs=some l),
 ∃ns:List Int,vs=ns.map (fun n=>Value.int .u8 n)∧l=ns.map (fun n=>UInt8.ofNat n.toNat)
 | [],vs,hv,l,h=>by rw[hv.nil_inv];simp [mapAll] at h;subst h;exact ⟨[],rfl,rfl⟩
 | c::cs,vs,hv,l,h=>by
   obtain ⟨y,ys,rfl,hy,hys⟩:=hv.uncons
   simp only[mapAll] at h
   split at h
   · simp at h
   · rename_i b hb
     split at h
     · simp at h
     · rename_i bs hbs
       simp at h;subst h
       obtain ⟨ns,rfl,rfl⟩:=bytesAt_run hys hbs
       split at hb
       · cases hy
         simp at hb;subst hb
         exact ⟨_::ns,rfl,rfl⟩
       · simp at hb
structure Entries (P:Program) (x:Value) (es:Array MapEntry) (w:World):Prop where
 is:(x= .map none∧es= #[])∨∃r clock,x= .map (some r)∧w.heap[r]? =some (.map es clock)
theorem lookup_run {P:Program} {t key elem:TypeId} (hu:P.underlying t=some (.map key elem)) {x k:Value} {es:Array MapEntry} {w:World} (hes:Entries P x es w)
 {d:TypeDesc} (hd:P.underlying key=some d) (hck:∀b n,(Instr.checkKey b (n+1) key k).run P w= .ok () w) {r:Option (Nat×Value)} (hf:Instr.findNow d k es.toList 0=some r) {z:Value} (hz:r=none→(zeroValue elem).run P w= .ok z w) (ok:Bool):
 (Instr.lookup t x k ok).run P w= .ok (match r with | some (_,v)=>if ok then .tuple #[v,.bool true] else v | none=>if ok then .tuple #[z,.bool false] else z) w:=by
 have hck':=fun b=>hck b 9999
 rw[Instr.lookup]
 simp only[Sem.run_bind,run_underlying hu,Result.andThen_ok]
 rcases hes.is with ⟨rfl,rfl⟩ | ⟨b,clock,rfl,hb⟩
 · simp only[Sem.run_bind,Sem.run_pure,Result.andThen_ok,hck',Instr.findKey,run_underlying hd,hf]
   cases r with
   | none=>simp [hz rfl]
   | some q=>simp
 · have hgo:(getObj b).run P w= .ok (.map es clock) w:=by simp [getObj,Sem.run,hb]
   simp only[Sem.run_bind,Sem.run_pure,Result.andThen_ok,hgo,hck',Instr.findKey,run_underlying hd,hf]
   cases r with
   | none=>simp [hz rfl]
   | some q=>simp
theorem readA_sound {φ:Ph} (hg:GL E φ) {h:Heap} {w:World} (ok:OK E φ h w) {ts:List AV} {a:Act} (ht:LR φ ts a.tmps.toList) {o:Oper} {v:AV} (e:readA E ts h o.op=some v):
 ∃v',VR φ v v'∧∀w',w'.heap=w.heap→(execOp a.eval o).run E.P w'= .ok (.value v') w':=by
 have ev:∀{x:Operand} {v:AV},evs E ts x=some v→VR φ v (a.eval x):=fun h=>evs_VR hg ht h
 unfold execOp
 generalize o.op=op at e ⊢
 unfold readA at e
 split at e
 ·
  split at e
  · rename_i hx
    obtain ⟨x',hx',hr⟩:=loadA_run ok (ev hx) e
    exact ⟨x',hx',fun w' hw=>run_v (hr w' hw)⟩
  · simp at e
 ·
  split at e
  · rename_i el v0 hs hd hx
    split at e
    · rename_i he
      simp at e;subst e
      have h1:=ev hx
      generalize hcv:a.eval _=cv at h1
      cases h1
      refine ⟨.string .empty,VR.str .empty,fun w' _=>run_v ?_⟩
      simp [hcv,convert,run_underlying hs,run_underlying hd,run_underlying he,Conv.bytesToString]
    · rename_i i o len _ _ he
      split at e
      · rename_i l hb
        simp at e;subst e
        have h1:=ev hx
        generalize hcv:a.eval _=cv at h1
        cases h1 with
        | @slice _ lc _ _ _ _ hφ=>
        unfold bytesAt at hb
        split at hb
        · rename_i cs el' ro hgc
          split at hb
          · rename_i hle
            obtain ⟨C,e',lo,hi,hbk,hc⟩:=ok.cells hgc hφ
            obtain ⟨vs,hvl,hvv,hlr⟩:=hc.range o len hle
            obtain ⟨ns,rfl,rfl⟩:=bytesAt_run hlr hb
            refine ⟨.string ⟨(ns.map (fun n=>UInt8.ofNat n.toNat)).toArray⟩,?_,fun w' hw'=>run_v ?_⟩
            · have:=VR.str (φ:=φ) ⟨(ns.map (fun n=>UInt8.ofNat n.toNat)).toArray⟩
              simpa using this
            · rw[←hw'] at hbk
              have hrow:=run_load_row (P:=E.P) hbk (lc.off+o) _ hvv
              rw[hvl] at hrow
              have:=bytesToString_run ns hrow (capOf ‹_› ‹_› lc.slack)
              rw[hcv]
              simp only[convert,Sem.run_bind,run_underlying hs,run_underlying hd,Result.andThen_ok,run_underlying he]
              exact this
          · simp at hb
        · simp at hb
      · simp at e
    · simp at e
  · simp at e
 ·
  rename_i t x ix commaOk
  split at e
  · rename_i key elem m k hu hm hk
    split at e
    · rename_i hkk
      have hkey:∃d,E.P.underlying key=some d∧keyKind (some d) k=true:=by
       cases hd:E.P.underlying key with
       | none=>rw[hd] at hkk;simp [keyKind] at hkk
       | some d=>rw[hd] at hkk;exact ⟨d,rfl,hkk⟩
      obtain ⟨d,hd,hkd⟩:=hkey
      have hmv:=ev hm
      have hkv:=ev hk
      split at e
      · simp at e
      · rename_i es hes
        have hent:∃es':Array MapEntry,ESR φ es es'.toList∧∀w',w'.heap=w.heap→Entries E.P (a.eval x) es' w':=by
         split at hes
         · simp at hes;subst hes
           generalize hcv:a.eval x=cv at hmv
           cases hmv
           exact ⟨#[],⟨rfl,fun i x y p _=>by simp at p⟩,fun w' _=>⟨.inl ⟨rfl,rfl⟩⟩⟩
         · rename_i i
           split at hes
           · rename_i es0 clock hgm
             simp at hes;subst hes
             generalize hcv:a.eval x=cv at hmv
             cases hmv with
             | @map _ l hφ=>
             have hor:=ok.live i _ l hgm hφ
             obtain ⟨h00,es',hb,hesr⟩:=hor
             exact ⟨es',hesr,fun w' hw=>⟨.inr ⟨l.blk,clock,rfl,by rw[hw];exact hb⟩⟩⟩
           · simp at hes
         · simp at hes
        obtain ⟨es',hesr,hrun⟩:=hent
        split at e
        · simp at e
        · rename_i j v0 hf
          obtain ⟨r',h1,h2⟩:=findA_run hkd hkv hesr hf
          cases r' with
          | none=>exact h2.elim
          | some q=>
          obtain ⟨j',v'⟩:=q
          obtain ⟨_,hvv,_⟩:=h2
          simp at e;subst e
          refine ⟨if commaOk then .tuple #[v',.bool true] else v',?_,fun w' hw=>run_v ?_⟩
          · split
            · exact VR.tuple' (cs':=[v',.bool true]) (.cons hvv (.cons (.bool true) (.nil φ)))
            · exact hvv
          · exact lookup_run hu (hrun w' hw) hd (fun b n=>checkKey_run hd hkd hkv b n w') h1 (z:=undef) (fun e=>by simp at e) commaOk
        · rename_i hf
          obtain ⟨r',h1,h2⟩:=findA_run hkd hkv hesr hf
          cases r' with
          | some q=>exact h2.elim
          | none=>
          split at e
          · rename_i z hz
            simp at e;subst e
            obtain ⟨z',hzr,hzrun⟩:=zeroT_run hz
            refine ⟨if commaOk then .tuple #[z',.bool false] else z',?_,fun w' hw=>run_v ?_⟩
            · split
              · exact VR.tuple' (cs':=[z',.bool false]) (.cons (hzr φ) (.cons (.bool false) (.nil φ)))
              · exact hzr φ
            · exact lookup_run hu (hrun w' hw) hd (fun b n=>checkKey_run hd hkd hkv b n w') h1 (fun _=>hzrun w') commaOk
          · simp at e
    · simp at e
  · simp at e
 ·
  split at e
  · rename_i t i htp hvs
    have hl:=evAll_LR hg ht hvs
    obtain ⟨y,ys,hys,hy,hnil⟩:=hl.uncons
    rw[hnil.nil_inv] at hys
    have h0:∀(args:Array Operand),args.toList.map a.eval=[y]→args.map a.eval= #[y]:=fun args e=>by rw[map_toArray,e]
    have h0:=h0 _ hys
    cases hy with
    | @map _ l hφ=>
    split at e
    · rename_i es clock hu hgm
      simp at e;subst e
      have hor:=ok.live i _ l hgm hφ
      obtain ⟨h00,es',hb,hlen,_⟩:=hor
      refine ⟨_,.int _ _,fun w' hw=>?_⟩
      rw[←hw] at hb
      have hgo:(getObj l.blk).run E.P w'= .ok (.map es' clock) w':=by simp [getObj,Sem.run,hb]
      simp [resolve,invoke,builtin,h0,Builtin.len_,htp,run_underlying hu,goInt,hgo,hlen]
    · simp at e
  · simp at e
 · simp at e
end Go.Ab
end
section
namespace Go.Ab
variable {E:Env}
theorem repCells_get (z:List AV):∀(n i:Nat),i<n*z.length→(repCells z n)[i]? =z[i%z.length]?
 | 0,i,h=>by omega
 | n+1,i,h=>by
   rw[repCells]
   by_cases hi:i<z.length
   · rw[List.getElem?_append_left hi,Nat.mod_eq_of_lt hi]
   · rw[List.getElem?_append_right (by omega),repCells_get z n (i - z.length) (by rw[Nat.add_mul] at h;omega)]
     rw[Nat.mod_eq_sub_mod (a:=i) (by omega)]
theorem repCells_length (z:List AV):∀n,(repCells z n).length=n*z.length
 | 0=>by simp [repCells]
 | n+1=>by rw[repCells,List.length_append,repCells_length z n,Nat.add_mul];omega
theorem rep_LR {φ:Ph} {z:List AV} {z':Array Value} (h:LR φ z z'.toList) (n:Nat):LR φ (repCells z n) ((Array.range (n*z'.size)).map (fun i=>z'[i%z'.size]!)).toList:=by
 have hl:z.length=z'.size:=by simpa using h.1
 refine ⟨by rw[repCells_length];simp [hl],fun i x y hx hy=>?_⟩
 have hi:i<n*z.length:=by
  have:=(List.getElem?_eq_some_iff.1 hx).1
  rwa [repCells_length] at this
 rw[repCells_get z n i hi] at hx
 obtain ⟨v,hv,hr⟩:=h.get hx
 have hpos:0<z'.size:=by
  rcases Nat.eq_zero_or_pos z'.size with h0 | h0
  · rw[hl,h0] at hi;omega
  · exact h0
 have:i%z'.size<z'.size:=Nat.mod_lt _ hpos
 rw[hl] at hi
 simp [hi] at hy
 rw[hl] at hv
 simp [this] at hv
 simp [this] at hy
 rw[←hy,hv];exact hr
structure Made (E:Env) (φ:Ph) (obj:AObj) (mk:Nat→AV) (O:Obj) (mk':Nat→Value):Prop where
 val:∀(φ':Ph) (i b:Nat),φ.le φ'→φ' i=some ⟨b,0,0⟩→VR φ' (mk i) (mk' b)
 obj:∀(φ':Ph) (b:Nat),φ.le φ'→OR E φ' obj ⟨b,0,0⟩ (some O)
theorem OR_cells {φ φ':Ph} (hle:φ.le φ') {cs:List AV} {C:Array Value} (h:LR φ cs C.toList) (t e:TypeId) (b:Nat):OR E φ' (.cells cs t false) ⟨b,0,0⟩ (some (.cells C e)):=by
 refine ⟨C,e,0,0,rfl,?_,fun k x hk=>?_,fun _ k _ _=>by omega,fun _ _ _=>rfl⟩
 · have:=h.1;simp at this;simp [slackCells,this]
 · obtain ⟨y,hy,hr⟩:=h.get hk
   exact ⟨y,by simpa using hy,hr.mono hle⟩
set_option linter.unusedSimpArgs false in
set_option maxHeartbeats 1000000 in
theorem allocA_sound {φ:Ph} (hg:GL E φ) {ts:List AV} {a:Act} (ht:LR φ ts a.tmps.toList) {o:Oper} {obj:AObj} {mk:Nat→AV} (e:allocA E ts o.op=some (obj,mk)):
 ∃O mk',Made E φ obj mk O mk'∧∀w,(execOp a.eval o).run E.P w= .ok (.value (mk' w.heap.size)) (w.alloc O):=by
 have ev:∀{x:Operand} {v:AV},evs E ts x=some v→VR φ v (a.eval x):=fun h=>evs_VR hg ht h
 unfold execOp
 generalize o.op=op at e ⊢
 unfold allocA at e
 split at e
 ·
  rename_i t
  split at e
  · rename_i z hz
    simp at e;obtain ⟨rfl,rfl⟩:=e
    obtain ⟨z',hzr,hzrun⟩:=zeroT_run hz
    refine ⟨.cells z'.cells t,fun b=> .pointer (some ⟨b,0,none⟩),⟨fun φ' i b _ hi=>by have:=VR.ptr (φ:=φ') 0 hi;simpa using this,fun φ' b hle=>OR_cells hle (hzr φ).cells _ _ b⟩,fun w=>run_v ?_⟩
    simp [Instr.alloc,hzrun,newVar,newRow]
  · simp at e
 ·
  rename_i t x
  split at e
  · rename_i v hv
    simp at e;obtain ⟨rfl,rfl⟩:=e
    refine ⟨.cells (a.eval x).cells t,fun b=> .pointer (some ⟨b,0,none⟩),⟨fun φ' i b _ hi=>by have:=VR.ptr (φ:=φ') 0 hi;simpa using this,fun φ' b hle=>OR_cells hle (ev hv).cells _ _ b⟩,fun w=>run_v ?_⟩
    simp [Instr.box,newVar,newRow]
  · simp at e
 ·
  rename_i t len parts
  split at e
  · rename_i elem hu
    split at e
    · rename_i n z ps hn hz hps
      split at e
      · rename_i hc
        split at e
        · rename_i cs hf
          simp at e;obtain ⟨rfl,rfl⟩:=e
          obtain ⟨z',hzr,hzrun⟩:=zeroT_run hz
          have hp:=partsA_PR hg ht hps
          have hzl:z'.cells.size=n:=by have:=(hzr φ).cells.1;simp at this;omega
          have hrep:=rep_LR (hzr φ).cells len
          rw[hzl] at hrep
          obtain ⟨C',hfill,hlr⟩:=fillA_run (place:=fun i=>some (i*n,n)) (qs:=(parts.map fun (i,x)=>(i,a.eval x)).toList) (by simpa using hp) hrep hf
          refine ⟨.cells C' elem,fun b=> .slice (some ⟨b,0,none⟩) len len,⟨fun φ' i b _ hi=>by have:=VR.slice (φ:=φ') 0 len len false hi;simpa [capOf] using this,fun φ' b hle=>OR_cells hle hlr _ _ b⟩,fun w=>run_v ?_⟩
          have h24:¬len*n>2^24:=by omega
          simp only[Instr.buildSlice,Sem.run_bind,run_underlying hu,Result.andThen_ok,run_size hn,h24,if_false,Sem.run_pure]
          by_cases h0:len*n=0
          · simp only[h0,if_true,Sem.run_pure,Result.andThen_ok]
            rw[h0] at hfill
            have r0:Array.range 0= #[]:=rfl
            simp [r0] at hfill
            simp [hfill,newRow,r0]
          · simp only[h0,if_false,Sem.run_bind,hzrun,Result.andThen_ok,Sem.run_pure]
            rw[hzl]
            simp only[hfill]
            simp [newRow]
        · simp at e
      · simp at e
    · simp at e
  · simp at e
 ·
  rename_i t lo co
  split at e
  · rename_i elem k len k' cap hu hl hc
    split at e
    · rename_i n bytes z hn hb hz
      split at e
      · rename_i hcnd
        obtain ⟨c1,c2,c3,c4,c5⟩:=hcnd
        simp at e;obtain ⟨rfl,rfl⟩:=e
        obtain ⟨z',hzr,hzrun⟩:=zeroT_run hz
        have hzl:z'.cells.size=n:=by have:=(hzr φ).cells.1;simp at this;omega
        have hrep:=rep_LR (hzr φ).cells cap.toNat
        rw[hzl] at hrep
        have h1:=ev hl
        have h2:=ev hc
        generalize hlv:a.eval lo=lv at h1
        generalize hcv:a.eval co=cv at h2
        cases h1;cases h2
        refine ⟨.cells ((Array.range (cap.toNat*n)).map (fun i=>z'.cells[i%n]!)) elem,fun b=> .slice (some ⟨b,0,none⟩) len.toNat cap.toNat,
         ⟨fun φ' i b _ hi=>by have:=VR.slice (φ:=φ') 0 len.toNat cap.toNat false hi;simpa [capOf] using this,fun φ' b hle=>OR_cells hle hrep _ _ b⟩,fun w=>run_v ?_⟩
        have w1:IntKind.i64.wrap len=len:=IntWalk.i64_in _ (by omega)
        have w2:IntKind.i64.wrap cap=cap:=IntWalk.i64_in _ (by omega)
        obtain ⟨inf,hinf,hbytes⟩:=run_bytes hb w
        have t1:¬(cap<0∨(2^48:Int)<bytes*cap):=by omega
        simp only[Instr.makeSlice,Sem.run_bind,run_underlying hu,Result.andThen_ok,hlv,hcv,asInt,asIntOf,Sem.run_pure,hinf,hbytes,w1,w2]
        have hb0:(0:Int)≤inf.bytes*cap:=Int.mul_nonneg (by omega) (by omega)
        have tl:(decide (cap<0)||decide ((inf.bytes:Int)*cap>2^48))=false:=by
         rw[hbytes];simp only[Bool.or_eq_false_iff,decide_eq_false_iff_not];omega
        have tl2:decide (len<0)=false:=by simp only[decide_eq_false_iff_not];omega
        have tl3:decide (len>cap)=false:=by simp only[decide_eq_false_iff_not];omega
        rw[←hbytes]
        simp only[tl,tl2,tl3,Bool.or_self,Bool.false_eq_true,if_false,run_askRoom,run_size hn,Sem.run_bind,Result.andThen_ok]
        by_cases h0:cap.toNat*n=0
        · have r0:Array.range 0= #[]:=rfl
          simp [h0,newRow,r0]
        · simp only[h0,if_false,Sem.run_bind,hzrun,Result.andThen_ok,Sem.run_pure]
          simp [newRow,hzl]
      · simp at e
    · simp at e
  · simp at e
 ·
  rename_i t r
  split at e
  · simp at e;obtain ⟨rfl,rfl⟩:=e
    exact ⟨.map #[] 0,fun b=> .map (some b),⟨fun φ' i b _ hi=>by have:=VR.map (φ:=φ') hi;simpa using this,fun φ' b hle=>⟨rfl, #[],rfl,rfl,fun i x y p _=>by simp at p⟩⟩,fun w=>run_v (by simp [Instr.makeMap])⟩
  · rename_i o
    split at e
    · rename_i hu hv
      simp at e;obtain ⟨rfl,rfl⟩:=e
      have h1:=ev hv
      generalize hlv:a.eval o=lv at h1
      cases h1
      exact ⟨.map #[] 0,fun b=> .map (some b),⟨fun φ' i b _ hi=>by have:=VR.map (φ:=φ') hi;simpa using this,fun φ' b hle=>⟨rfl, #[],rfl,rfl,fun i x y p _=>by simp at p⟩⟩,fun w=>run_v (by simp [Instr.makeMap,run_underlying hu,hlv,asInt,asIntOf])⟩
    · simp at e
 ·
  rename_i t x
  split at e
  · rename_i s hu hx
    simp at e;obtain ⟨rfl,rfl⟩:=e
    have h1:=ev hx
    generalize hlv:a.eval x=lv at h1
    generalize hss:AV.str s=s0 at h1
    cases h1<;>cases hss
    rename_i s'
    exact ⟨.stringIter s' 0,fun b=> .pointer (some ⟨b,0,none⟩),⟨fun φ' i b _ hi=>by have:=VR.ptr (φ:=φ') 0 hi;simpa using this,fun φ' b hle=>⟨rfl,s',rfl,rfl⟩⟩,fun w=>run_v (by simp [Instr.range,run_underlying hu,hlv])⟩
  · rename_i hu hx
    simp at e;obtain ⟨rfl,rfl⟩:=e
    have h1:=ev hx
    generalize hlv:a.eval x=lv at h1
    cases h1
    exact ⟨.mapIter none 0 #[] 0,fun b=> .pointer (some ⟨b,0,none⟩),⟨fun φ' i b _ hi=>by have:=VR.ptr (φ:=φ') 0 hi;simpa using this,fun φ' b hle=>⟨rfl,rfl⟩⟩,fun w=>run_v (by simp [Instr.range,run_underlying hu,hlv])⟩
  · simp at e
 · simp at e
end Go.Ab
end
