import Derived.Laws.StructEq
import Derived.Laws.Slices
import Derived.Laws.Strings
import Derived.ChangeKeysEq
import Derived.Deep.MidRow
import Derived.Lib.Strings
import Derived.IntWalk
import Derived.Test.YtogcojohajankaaGreatA0
set_option linter.unusedVariables false
set_option linter.unusedSimpArgs false
section
namespace Go.Ab
variable {E:Env}
def GL (E:Env) (φ:Ph):Prop:=∀g,g<E.G→φ g=some ⟨g,0,0⟩
theorem o6 {φ:Ph} (hg:GL E φ) {ts:List AV} {a:Act} (ht:LR φ ts a.tmps.toList) {x:Operand} {v:AV} (h:fJ E ts x=some v):VR φ v (a.eval x):=by
 cases x with
 | tmp t=>
   simp only[fJ,Option.some.injEq] at h;subst h
   have:=ht.getD (VR.undef φ) t
   rw[show a.eval (.tmp t)=a.tmps.toList.getD t undef by simp [Act.eval,Array.getD_eq_getD_getElem?,List.getD]]
   exact this
 | const c=>exact Eu φ h
 | global g=>
   simp only[fJ] at h
   split at h
   · rename_i nN;simp at h;subst h;have:=VR.ptr 0 (hg g nN);simpa [Act.eval] using this
   · simp at h
 | func f=>simp [fJ] at h;subst h;exact VR.Vk (a':=[]) (b':=[]) f (LR.nil φ) (LR.nil φ)
theorem jt {φ:Ph} (hg:GL E φ) {ts:List AV} {a:Act} (ht:LR φ ts a.tmps.toList) {l:List Operand} {r:List AV} (h:hT E ts l=some r):LR φ r (l.map a.eval):=by
 obtain ⟨hl,hv⟩:=vj h
 refine ⟨by simp [hl],fun i x y hx hy=>?_⟩
 simp at hy
 obtain ⟨o,ho,rfl⟩:=hy
 obtain ⟨z,hz,he⟩:=hv i o ho
 rw[hx] at hz;simp at hz;subst hz
 exact o6 hg ht he
theorem fv {P:Program} {t:TypeId} {n:Nat} (h:(P.info? t).map (·.size)=some n) (w:World):(sizeOf t).run P w= .ok n w:=by
 cases hq:P.info? t with
 | none=>simp [hq] at h
 | some i=>simp [hq] at h;simp [sizeOf,typeInfo,hq,h]
theorem rP {P:Program} {t:TypeId} {n:Nat} (h:(P.info? t).map (·.bytes)=some n) (w:World):∃i,(typeInfo t).run P w= .ok i w∧i.bytes=n:=by
 cases hq:P.info? t with
 | none=>simp [hq] at h
 | some i=>simp [hq] at h;exact ⟨i,by simp [typeInfo,hq],h⟩
theorem kf {t:TypeId} {z:AV} (h:g5 E t=some z):∃z',(∀φ,VR φ z z')∧∀w,(zeroValue t).run E.P w= .ok z' w:=by
 unfold g5 at h
 split at h
 · rename_i i hi
   split at h
   · rename_i z' hz
     exact ⟨z',fun φ=>Eu φ h,fun w=>by simp [zeroValue,typeInfo,hi,hz]⟩
   · simp at h
 · simp at h
theorem s6 {t:TypeId} {b:Bool} (h:fY E t=some b) (w:World):(isAgg t).run E.P w= .ok b w:=by
 unfold fY at h
 unfold isAgg
 rw[Sem.run_bind]
 split at h<;>rename_i hu<;>simp at h
 · subst h;rw[run_underlying hu];rfl
 · subst h;rw[run_underlying hu];rfl
 · rename_i d h1 h2
   subst h;rw[run_underlying hu]
   cases d<;>first | rfl | (exact absurd rfl (h1 _)) | (exact absurd rfl (h2 _ _))
theorem toArray_extract (l:List Value) (a b:Nat):l.toArray.extract a b=((l.drop a).take (b - a)).toArray:=by simp
theorem rQ {φ:Ph} {t:TypeId} {cs:List AV} {j4:List Value} (hc:LR φ cs j4) {off:Nat} {v:AV} (h:jq E t cs off=some v):
 ∃v',VR φ v v'∧∀w,(part t j4.toArray off).run E.P w= .ok v' w:=by
 unfold jq at h
 split at h
 · rename_i ha
   split at h
   · rename_i n hn
     split at h
     · simp at h;subst h
       refine ⟨.agg ((j4.drop off).take n).toArray,VR.Th ((hc.drop off).take n),fun w=>?_⟩
       simp only[part,Sem.run_bind,s6 ha,Result.andThen_ok,if_true,fv hn,Sem.run_pure,toArray_extract,Nat.add_sub_cancel_left]
     · simp at h
   · simp at h
 · rename_i ha
   obtain ⟨y,hy,hv⟩:=hc.get h
   refine ⟨y,hv,fun w=>?_⟩
   simp only[part,Sem.run_bind,s6 ha,Result.andThen_ok,Bool.false_eq_true,if_false]
   have:j4.toArray[off]? =some y:=by simpa using hy
   simp [this]
 · simp at h
theorem bytes_beq (a b:ByteArray):(a.toList==b.toList)=(a.data.toList==b.data.toList):=by rw[ByteArray.toList_eq,ByteArray.toList_eq]
set_option linter.unusedSimpArgs false in
theorem O8 {φ:Ph} {op:BinOp} {k:IntKind} {x y:Int} {v:AV} (h:dU op k x y=some v) (hs:op≠ .shl) (s7:op≠ .shr) (t:TypeId):
 ∃v',VR φ v v'∧∀w,(binOp op t (.int k x) (.int k y)).run E.P w= .ok v' w:=by
 unfold dU at h
 split at h
 all_goals first
  | (simp at h;subst h;exact ⟨_,.int _ _,fun w=>by simp [binOp,Op.intArith,Op.intBits,Op.intCmp]⟩)
  | (simp at h;subst h;exact ⟨_,.bool _,fun w=>by simp [binOp,Op.intArith,Op.intBits,Op.intCmp]⟩)
  | (split at h
     · simp at h
     · rename_i hy
       simp at h;subst h;exact ⟨_,.int _ _,fun w=>by simp [binOp,Op.intDiv,hy]⟩)
  | simp at h
set_option linter.unusedSimpArgs false in
theorem O9 {φ:Ph} {op:BinOp} {x y:ByteArray} {v:AV} (h:yq op x.data.toList y.data.toList=some v) (t:TypeId):
 ∃v',VR φ v v'∧∀w,(binOp op t (.string x) (.string y)).run E.P w= .ok v' w:=by
 unfold yq at h
 split at h
 · split at h
   · rename_i nN
     simp at h;subst h
     refine ⟨.string (x++y),?_,fun w=>?_⟩
     · have:=VR.str (φ:=φ) (x++y);simpa using this
     · have amh:x.size+y.size<1099511627776:=by
        have e:∀b:ByteArray,b.size=b.data.toList.length:=fun b=>by cases b;rfl
        rw[e,e];exact nN
       have hm:IntKind.i64.max=9223372036854775807:=by decide
       have:¬((x.size+y.size:Nat):Int) >IntKind.i64.max:=by rw[hm];omega
       simp only[binOp,Op.stringOp,this,if_false,Sem.run_pure]
   · simp at h
 all_goals first
  | (simp only[Option.some.injEq] at h;subst h;exact ⟨_,.bool _,fun w=>by simp only[binOp,Op.stringOp,bytes_beq,ByteArray.toList_eq,Sem.run_pure]⟩)
  | simp at h
theorem Iu {φ:Ph} {t:TypeId} {x y:AV} {r:Bool} (h:Tg E t x y=some r) {x' y':Value} (hx:VR φ x x') (hy:VR φ y y') (dd:Nat):
 ∀w,(Op.equalIn (dd+1) t x' y').run E.P w= .ok r w:=by
 intro w
 unfold Tg at h
 split at h<;>(try (simp at h;done))
 all_goals
  rename_i hd
  split at h<;>(try (simp at h;done))
  all_goals
   simp only[Option.some.injEq] at h
   subst h
   unfold Op.equalIn
   rw[Sem.run_bind,run_underlying hd]
   cases hx<;>cases hy<;>rfl
theorem Me {φ:Ph} {t:TypeId} {x y:AV} {r:Bool} (h:Tg E t x y=some r) {x' y':Value} (hx:VR φ x x') (hy:VR φ y y'):
 ∀w,(Op.equal t x' y').run E.P w= .ok r w:=Iu h hx hy 9999
theorem rk {φ:Ph} {eq:TypeId→AV→AV→Option Bool} {d:Nat} (heq:∀t a b r a' b',eq t a b=some r→VR φ a a'→VR φ b b'→∀w,(Op.equalIn d t a' b').run E.P w= .ok r w)
 {xs ys:List AV} {Es BG:Array Value} (hx:LR φ xs Es.toList) (hy:LR φ ys BG.toList):∀{fs:List Field} {r:Bool} (_:pK E eq xs ys fs=some r) (w:World),(Op.eqFields d Es BG fs).run E.P w= .ok r w
 | [],r,h,w=>by simp [pK] at h;subst h;rfl
 | f::fs,r,h,w=>by
   simp only[pK] at h
   unfold Op.eqFields
   split at h
   · rename_i hn
     rw[if_neg (by simp [hn])]
     exact rk heq hx hy h w
   · rename_i hn
     rw[if_pos hn]
     split at h
     · rename_i a b ha hb
       obtain ⟨a',hva,hra⟩:=rQ hx ha
       obtain ⟨b',hvb,hrb⟩:=rQ hy hb
       rw[Array.toArray_toList] at hra hrb
       split at h
       · rename_i he
         have:=rk heq hx hy h w
         simp [Sem.run_bind,hra,hrb,heq _ _ _ _ _ _ he hva hvb,this]
       · rename_i he
         simp at h;subst h
         simp [Sem.run_bind,hra,hrb,heq _ _ _ _ _ _ he hva hvb]
       · simp at h
     · simp at h
theorem pS {φ:Ph}:∀(n d:Nat) (t:TypeId) (a b:AV) (r:Bool) (a' b':Value) (_:mo E n t a b=some r) (_:VR φ a a') (_:VR φ b b') (w:World),(Op.equalIn (d+n) t a' b').run E.P w= .ok r w
 | 0,_,_,_,_,_,_,_,h,_,_,_=>by simp [mo] at h
 | n+1,d,t,a,b,r,a',b',h,ha,hb,w=>by
   rw[←Nat.add_assoc]
   unfold mo at h
   split at h
   · cases ha;cases hb
     split at h
     · rename_i hu
       split at h
       · rename_i hk;subst hk
         simp at h;subst h
         exact run_equalIn_int w (d+n) t _ _ _ _ hu
       · simp at h
     · simp at h
   · cases ha;cases hb
     split at h
     · rename_i hu
       simp only[Option.some.injEq] at h;subst h
       rw[run_equalIn_string w (d+n) t _ _ hu,ByteArray.toList_eq,ByteArray.toList_eq]
     · simp at h
   · obtain ⟨Es,rfl,Hv⟩:=ha.lr
     obtain ⟨BG,rfl,yx⟩:=hb.lr
     split at h
     · rename_i fs hu
       split at h
       · rename_i kB
         have hfs:E.P.fieldsOf t=fs:=by simp [Program.fieldsOf,hu]
         rw[run_equalIn_struct w (d+n) t Es BG (by rw[hfs];exact hu) kB,hfs]
         exact rk (fun t a b r a' b' h1 h2 h3 w=>pS n d t a b r a' b' h1 h2 h3 w) Hv yx h w
       · simp at h
     · simp at h
   · exact Iu h ha hb (d+n) w
theorem CK {op:BinOp} {t:TypeId} (x y:Operand) (xs ys:Array Value) (h:E.P.eqGuardType E.P.depth t=false) (w:World):(eqGuard op t x y (.agg xs) (.agg ys)).run E.P w= .ok () w:=by
 unfold eqGuard
 cases op<;>(try rfl)
 all_goals simp [Sem.run_bind,run_program,h]
theorem xP {op:BinOp} (h1:op≠ .eql) (h2:op≠ .neq) (t:TypeId) (x y:Operand) (a b:Value) (w:World):(eqGuard op t x y a b).run E.P w= .ok () w:=by
 unfold eqGuard;cases op<;>first | rfl | (exact absurd rfl h1) | (exact absurd rfl h2)
def JN (xc yc:Bool):Value→Value→Bool
 | .nilIface,.nilIface=>xc||yc
 | .agg _,.agg _=>false
 | _,_=>true
theorem oc {op:BinOp} (t:TypeId) (x y:Operand) (a b:Value) (h:JN (isConst x) (isConst y) a b=true) (w:World):
 (eqGuard op t x y a b).run E.P w= .ok () w:=by
 unfold eqGuard
 cases op<;>(try rfl)
 all_goals
  cases a<;>cases b<;>first
   | rfl
   | (simp [JN] at h;done)
   | (cases x<;>cases y<;>first | rfl | (simp [JN,isConst] at h;done))
theorem Iv {k k':IntKind} {x y:Int} (hy:¬y<0) (t:TypeId):
 (∀w,(binOp .shl t (.int k x) (.int k' y)).run E.P w= .ok (.int k (k.wrap (x*2^(min y.toNat k.bits)))) w)∧
 (∀w,(binOp .shr t (.int k x) (.int k' y)).run E.P w= .ok (.int k (x.fdiv (2^(min y.toNat k.bits)))) w):=by
 constructor<;>intro w<;>simp [binOp,Op.shift,hy]
theorem EA {φ:Ph} {a b:AV} {a' b':Value} (hx:VR φ a a') (hy:VR φ b b') {xo yo:Operand} (h:qL (isConst xo) (isConst yo) a b=true):
 JN (isConst xo) (isConst yo) a' b'=true:=by
 cases hx<;>cases hy<;>first | rfl | exact h | (simp [qL] at h;done)
def l4:Value→Prop
 | .float _ _ | .complex _ _ _=>False
 | _=>True
theorem VR.l4 {φ:Ph} {a:AV} {a':Value} (h:VR φ a a'):Ab.l4 a':=by
 cases h with
 | any _ h=>cases a'<;>first | exact trivial | cases h
 | _=>exact trivial
theorem binOp_eql (t:TypeId) {a b:Value} (h1:∀k m k' m',a= .int k m→b= .int k' m'→False) (h2:∀k m,a= .string k→b= .string m→False) (h3:l4 a) (h4:l4 b):
 binOp .eql t a b=(do pure (.bool (←Op.equal t a b)):Sem Value):=by
 unfold binOp
 split<;>first
  | rfl
  | contradiction
  | (exact (h1 _ _ _ _ rfl rfl).elim)
  | (exact (h2 _ _ rfl rfl).elim)
  | (exact h3.elim)
  | (exact h4.elim)
  | (exfalso;simp_all;done)
theorem binOp_neq (t:TypeId) {a b:Value} (h1:∀k m k' m',a= .int k m→b= .int k' m'→False) (h2:∀k m,a= .string k→b= .string m→False) (h3:l4 a) (h4:l4 b):
 binOp .neq t a b=(do pure (.bool (!(←Op.equal t a b))):Sem Value):=by
 unfold binOp
 split<;>first
  | rfl
  | contradiction
  | (exact (h1 _ _ _ _ rfl rfl).elim)
  | (exact (h2 _ _ rfl rfl).elim)
  | (exact h3.elim)
  | (exact h4.elim)
  | (exfalso;simp_all;done)
set_option linter.unusedSimpArgs false in
theorem Vt {φ:Ph} {op:BinOp} {t:TypeId} {xo yo:Operand} {a b v:AV} (h:nC E op t (isConst xo) (isConst yo) a b=some v) {a' b':Value} (hx:VR φ a a') (hy:VR φ b b'):
 ∃v',VR φ v v'∧∀w,(do eqGuard op t xo yo a' b';binOp op t a' b':Sem Value).run E.P w= .ok v' w:=by
 unfold nC at h
 split at h
 ·
  cases hx;cases hy
  split at h
  · simp at h
  · rename_i hn
    simp at h;subst h
    refine ⟨_,.int _ _,fun w=>?_⟩
    rw[Sem.run_bind,xP (by decide) (by decide)]
    exact (Iv (E:=E) hn t).1 w
 · cases hx;cases hy
   split at h
   · simp at h
   · rename_i hn
     simp at h;subst h
     refine ⟨_,.int _ _,fun w=>?_⟩
     rw[Sem.run_bind,xP (by decide) (by decide)]
     exact (Iv (E:=E) hn t).2 w
 · rename_i k x k' y h1 h2
   cases hx;cases hy
   split at h
   · rename_i hk;subst hk
     obtain ⟨v',hv,hr⟩:=O8 (φ:=φ) (E:=E) h h1 h2 t
     refine ⟨v',hv,fun w=>?_⟩
     rw[Sem.run_bind,oc _ _ _ _ _ rfl]
     exact hr w
   · simp at h
 · cases hx;cases hy
   obtain ⟨v',hv,hr⟩:=O9 (φ:=φ) (E:=E) h t
   refine ⟨v',hv,fun w=>?_⟩
   rw[Sem.run_bind,oc _ _ _ _ _ rfl]
   exact hr w
 ·
  split at h
  · simp at h
  · rename_i hg
    split at h
    · rename_i r hr
      simp at h;subst h
      refine ⟨_,.bool r,fun w=>?_⟩
      obtain ⟨Es,rfl,Hv⟩:=hx.lr
      obtain ⟨BG,rfl,yx⟩:=hy.lr
      rw[Sem.run_bind,CK _ _ _ _ (by simpa using hg)]
      have:=pS 16 9984 t _ _ r _ _ hr hx hy w
      simp only[Result.andThen_ok]
      rw[binOp_eql (a:= .agg Es) (b:= .agg BG) t (fun _ _ _ _ e=>by simp at e) (fun _ _ e=>by simp at e) trivial trivial,Sem.run_bind]
      rw[show (Op.equal t (.agg Es) (.agg BG)).run E.P w= .ok r w from this];rfl
    · simp at h
 · split at h
   · simp at h
   · rename_i hg
     split at h
     · rename_i r hr
       simp at h;subst h
       refine ⟨_,.bool (!r),fun w=>?_⟩
       obtain ⟨Es,rfl,Hv⟩:=hx.lr
       obtain ⟨BG,rfl,yx⟩:=hy.lr
       rw[Sem.run_bind,CK _ _ _ _ (by simpa using hg)]
       have:=pS 16 9984 t _ _ r _ _ hr hx hy w
       simp only[Result.andThen_ok]
       rw[binOp_neq (a:= .agg Es) (b:= .agg BG) t (fun _ _ _ _ e=>by simp at e) (fun _ _ e=>by simp at e) trivial trivial,Sem.run_bind]
       rw[show (Op.equal t (.agg Es) (.agg BG)).run E.P w= .ok r w from this];rfl
     · simp at h
 · rename_i h1 h2 _
   split at h
   · rename_i hg
     split at h
     · rename_i r hr
       simp at h;subst h
       refine ⟨_,.bool r,fun w=>?_⟩
       rw[Sem.run_bind,oc _ _ _ _ _ (EA hx hy hg)]
       have:=Me hr hx hy w
       simp only[Result.andThen_ok]
       rw[binOp_eql t (fun k m k' m' e e'=>by subst e;subst e';cases hx<;>cases hy<;>first | exact h1 _ _ _ _ rfl rfl | (simp [qL] at hg;done)) (fun k m e e'=>by subst e;subst e';cases hx<;>cases hy<;>first | exact h2 _ _ rfl rfl | (simp [qL] at hg;done)) (VR.l4 hx) (VR.l4 hy)]
       rw[Sem.run_bind,this];rfl
     · simp at h
   · simp at h
 · rename_i h1 h2 _
   split at h
   · rename_i hg
     split at h
     · rename_i r hr
       simp at h;subst h
       refine ⟨_,.bool (!r),fun w=>?_⟩
       rw[Sem.run_bind,oc _ _ _ _ _ (EA hx hy hg)]
       have:=Me hr hx hy w
       simp only[Result.andThen_ok]
       rw[binOp_neq t (fun k m k' m' e e'=>by subst e;subst e';cases hx<;>cases hy<;>first | exact h1 _ _ _ _ rfl rfl | (simp [qL] at hg;done)) (fun k m e e'=>by subst e;subst e';cases hx<;>cases hy<;>first | exact h2 _ _ rfl rfl | (simp [qL] at hg;done)) (VR.l4 hx) (VR.l4 hy)]
       rw[Sem.run_bind,this];rfl
     · simp at h
   · simp at h
 · simp at h
end Go.Ab
end
section
namespace Go.Ab
variable {E:Env}
theorem aac {φ:Ph} {op:UnOp} {x v:AV} (h:unA op x=some v) {x':Value} (hx:VR φ x x'):∃v',VR φ v v'∧∀w,(Op.unary op x').run E.P w= .ok v' w:=by
 unfold unA at h
 split at h
 · cases hx;simp at h;subst h;exact ⟨_,.int _ _,fun w=>by simp [Op.unary,Op.intArith]⟩
 · cases hx;simp at h;subst h;exact ⟨_,.int _ _,fun w=>by simp [Op.unary,Op.intBits]⟩
 · cases hx;simp at h;subst h;exact ⟨_,.bool _,fun w=>by simp [Op.unary]⟩
 · simp at h
theorem yz {φ:Ph} {x:AV} {y n:Nat} (h:pN x y=some n) {x':Value} (hx:VR φ x x') {y':Nat} (hy:y≤y') (code:BoundsCode):
 (∀w,(Instr.sliceBound x' y' code).run E.P w= .ok n w)∧n≤y:=by
 unfold pN at h
 split at h
 · split at h
   · rename_i hc
     cases hx
     simp at h;subst h
     refine ⟨fun w=>?_,by omega⟩
     simp only[Instr.sliceBound,asIntOf,Sem.run_bind,Sem.run_pure,Result.andThen_ok]
     rw[if_pos (by omega)];rfl
   · simp at h
 · simp at h
def O_ (φ:Ph):Option AV→Option Value→Prop
 | none,none=>True
 | some x,some y=>VR φ x y
 | _,_=>False
theorem EB (isS:Bool) (len BI:Nat) (O' JO Hw:Option Value):Instr.sliceBounds isS len BI O' JO Hw=(do
 let m←(match Hw with | some v=>Instr.sliceBound v BI (if isS then .slice3Acap else .slice3Alen) | none=>pure BI:Sem Nat)
 let h←(match JO,Hw with | some v,some _=>Instr.sliceBound v m .slice3B | some v,none=>Instr.sliceBound v m (if isS then .sliceAcap else .sliceAlen) | none,none=>pure len | none,some _=>stuck "Slice: max without high" :Sem Nat)
 let l←(match O' with | some v=>Instr.sliceBound v h (if Hw.isSome then .slice3C else .sliceB) | none=>pure 0:Sem Nat)
 pure (l,h,m)):=by
 unfold Instr.sliceBounds
 cases Hw<;>cases JO<;>cases O'<;>rfl
theorem qM {φ:Ph} {len cap:Nat} {lo hi mx:Option AV} {l h m:Nat} (e:mg len cap lo hi mx=some (l,h,m)) {O' JO Hw:Option Value}
 (ZO:O_ φ lo O') (ZP:O_ φ hi JO) (Vu:O_ φ mx Hw) {BI:Nat} (hc:cap≤BI) (isS:Bool) (hlen:len≤cap):
 (∀w,(Instr.sliceBounds isS len BI O' JO Hw).run E.P w= .ok (l,h,if mx.isNone then BI else m) w)∧l≤h∧h≤m∧m≤cap∧(mx=none→m=cap):=by
 unfold mg at e
 split at e
 · simp at e
 rename_i m0 hm0
 have hm:(∀w,(match Hw with | some v=>Instr.sliceBound v BI (if isS then .slice3Acap else .slice3Alen) | none=>pure BI:Sem Nat).run E.P w= .ok (if mx.isNone then BI else m0) w)∧m0≤cap∧(mx=none→m0=cap):=by
  cases mx with
  | none=>
    cases Hw with
    | some _=>exact Vu.elim
    | none=>simp at hm0;subst hm0;exact ⟨fun w=>rfl,Nat.le_refl _,fun _=>rfl⟩
  | some v=>
    cases Hw with
    | none=>exact Vu.elim
    | some v'=>
      have:=fun code=>yz (E:=E) hm0 (show VR φ v v' from Vu) hc code
      exact ⟨(this _).1,(this .index).2,fun e=>by simp at e⟩
 split at e
 · simp at e
 rename_i h0 hh0
 have ajE:m0≤(if mx.isNone then BI else m0):=by split<;>omega
 have hh:(∀w,(match JO,Hw with | some v,some _=>Instr.sliceBound v (if mx.isNone then BI else m0) .slice3B | some v,none=>Instr.sliceBound v (if mx.isNone then BI else m0) (if isS then .sliceAcap else .sliceAlen) | none,none=>pure len | none,some _=>stuck "Slice: max without high" :Sem Nat).run E.P w= .ok h0 w)∧h0≤m0:=by
  cases hi with
  | none=>
    cases JO with
    | some _=>exact ZP.elim
    | none=>
      cases mx with
      | some _=>simp at hh0
      | none=>
        cases Hw with
        | some _=>exact Vu.elim
        | none=>simp at hh0;subst hh0;exact ⟨fun w=>rfl,by have:=hm.2.2 rfl;omega⟩
  | some v=>
    cases JO with
    | none=>exact ZP.elim
    | some v'=>
      have:=fun code=>yz (E:=E) hh0 (show VR φ v v' from ZP) ajE code
      cases Hw with
      | none=>exact ⟨(this _).1,(this .index).2⟩
      | some _=>exact ⟨(this _).1,(this .index).2⟩
 split at e
 · simp at e
 rename_i l0 hl0
 simp at e
 obtain ⟨rfl,rfl,rfl⟩:=e
 have hl:(∀w,(match O' with | some v=>Instr.sliceBound v h0 (if Hw.isSome then .slice3C else .sliceB) | none=>pure 0:Sem Nat).run E.P w= .ok l0 w)∧l0≤h0:=by
  cases lo with
  | none=>
    cases O' with
    | some _=>exact ZO.elim
    | none=>simp at hl0;subst hl0;exact ⟨fun w=>rfl,by omega⟩
  | some v=>
    cases O' with
    | none=>exact ZO.elim
    | some v'=>
      have:=fun code=>yz (E:=E) hl0 (show VR φ v v' from ZO) (Nat.le_refl _) code
      exact ⟨(this _).1,(this .index).2⟩
 refine ⟨fun w=>?_,hl.2,hh.2,hm.2.1,hm.2.2⟩
 rw[EB,Sem.run_bind,hm.1 w,Result.andThen_ok,Sem.run_bind,hh.1 w,Result.andThen_ok,Sem.run_bind,hl.1 w]
 rfl
theorem wK (b o n:Nat):(⟨b,o,none⟩:Addr).add n=⟨b,o+n,none⟩:=Addr.add_mid b o n
theorem Pa {φ:Ph} {t:TypeId} {x v:AV} {lo hi mx:Option AV} (e:dV E t x lo hi mx=some v) {x':Value} {O' JO Hw:Option Value}
 (hx:VR φ x x') (ZO:O_ φ lo O') (ZP:O_ φ hi JO) (Vu:O_ φ mx Hw):∃v',VR φ v v'∧∀w,(Instr.sliceAt t x' O' JO Hw).run E.P w= .ok v' w:=by
 unfold dV at e
 split at e
 ·
  rename_i n elem i o hu
  cases hx with
  | @ptr _ l _ hφ=>
  split at e
  · rename_i l0 h0 m0 size hb hs
    simp at e;subst e
    obtain ⟨hr,h1,h2,h3,h4⟩:=qM (E:=E) hb ZO ZP Vu (Nat.le_refl n) false (Nat.le_refl n)
    have hm:(if mx.isNone then n else m0)=m0:=by
     cases mx with
     | none=>simp [h4 rfl]
     | some _=>rfl
    rw[hm] at hr
    refine ⟨_,.slice (if m0=l0 then o else o+l0*size) (h0 - l0) (m0 - l0) false hφ,fun w=>?_⟩
    simp only[Instr.sliceAt,Sem.run_bind,run_underlying hu,Result.andThen_ok,Instr.sureAddr,Sem.run_pure,hr w,fv hs,iO,Bool.false_eq_true,if_false]
    by_cases hml:m0=l0
    · simp [hml]
    · simp only[hml,if_false,wK];rw[Nat.add_assoc]
  · simp at e
 ·
  rename_i s hu
  split at e
  · rename_i l0 h0 m0 hb
    simp at e;subst e
    generalize hs:s=s0 at hx hb
    cases hx with
    | str s'=>
    subst hs
    have e1:s'.size=s'.data.toList.length:=by cases s';rfl
    cases Hw with
    | some _=>exact Vu.elim
    | none=>
    obtain ⟨hr,h1,h2,h3,h4⟩:=qM (E:=E) (mx:=none) (Hw:=none) hb ZO ZP trivial (Nat.le_refl _) false (Nat.le_refl _)
    refine ⟨.string (s'.extract l0 h0),?_,fun w=>?_⟩
    · have:=VR.str (φ:=φ) (s'.extract l0 h0)
      have e2:(s'.extract l0 h0).data.toList=(s'.data.toList.drop l0).take (h0 - l0):=by
       exact Lib.extract_data s' l0 h0
      rw[e2] at this;exact this
    · have Vv:=hr w
      rw[←e1] at Vv
      simp only[Instr.sliceAt,Instr.slice,Sem.run_bind,run_underlying hu,Result.andThen_ok,Option.isSome_none,Bool.false_eq_true,if_false,Vv,Sem.run_pure]
  · simp at e
 ·
  rename_i elem hu
  cases hx
  split at e
  · rename_i r size hb hs
    simp at e;subst e
    obtain ⟨l0,h0,m0⟩:=r
    obtain ⟨hr,h1,h2,h3,h4⟩:=qM (E:=E) hb ZO ZP Vu (Nat.le_refl _) true (Nat.le_refl _)
    have hm:(if mx.isNone then 0 else m0)=0:=by split<;>omega
    rw[hm] at hr
    refine ⟨_,.aD,fun w=>?_⟩
    obtain rfl:l0=0:=by omega
    obtain rfl:h0=0:=by omega
    simp only[Instr.sliceAt,Instr.slice,Sem.run_bind,run_underlying hu,Result.andThen_ok,hr w,fv hs,if_true,Sem.run_pure]
  · simp at e
 · rename_i elem i o len cap op hu
   cases hx with
   | @slice _ l _ _ _ _ hφ=>
   split at e
   · rename_i hlc
     split at e
     · rename_i l0 h0 m0 size hb hs
       have hcc:cap≤iO op cap l.j6:=by unfold iO;split<;>omega
       obtain ⟨hr,h1,h2,h3,h4⟩:=qM (E:=E) hb ZO ZP Vu hcc true hlc
       have run:∀w,(Instr.sliceAt t (.slice (some ⟨l.iw,l.off+o,none⟩) len (iO op cap l.j6)) O' JO Hw).run E.P w=
        .ok (.slice (if (if mx.isNone then iO op cap l.j6 else m0)=l0 then some ⟨l.iw,l.off+o,none⟩ else some ⟨l.iw,l.off+o+l0*size,none⟩) (h0 - l0) ((if mx.isNone then iO op cap l.j6 else m0) - l0)) w:=fun w=>by
        simp only[Instr.sliceAt,Instr.slice,Sem.run_bind,run_underlying hu,Result.andThen_ok,hr w,fv hs,Sem.run_pure,Option.map_some,wK]
       split at e
       · rename_i hml
         split at e
         · rename_i rM
           have hmn:mx.isNone=true:=by simp at rM;simpa using rM.2
           simp only[Option.some.injEq] at e;subst e
           have e0:h0 - l0=0:=by omega
           rw[e0] at run
           by_cases hq:(if mx.isNone then iO op cap l.j6 else m0)=l0
           · exact ⟨_,.fm _ _,fun w=>by rw[run w,if_pos hq]⟩
           · exact ⟨_,.fm _ _,fun w=>by rw[run w,if_neg hq]⟩
         · rename_i rM
           simp at e;subst e
           have hcm:(if mx.isNone then iO op cap l.j6 else m0)=m0:=by
            cases hmn:mx with
            | none=>subst hmn;simp at rM;subst rM;simp [iO,h4 rfl]
            | some _=>rfl
           rw[hcm,if_pos hml] at run
           exact ⟨_,.slice o (h0 - l0) (m0 - l0) false hφ,run⟩
       · rename_i hml
         simp only[Option.some.injEq] at e;subst e
         have fH:¬(if mx.isNone then iO op cap l.j6 else m0)=l0:=by
          split
          · rename_i hmn;have:=h4 (by simpa using hmn);omega
          · exact hml
         rw[if_neg fH,Nat.add_assoc] at run
         refine ⟨_,?_,run⟩
         have:=VR.slice (φ:=φ) (o+l0*size) (h0 - l0) (m0 - l0) (op&&mx.isNone) hφ
         have e2:iO (op&&mx.isNone) (m0 - l0) l.j6=(if mx.isNone then iO op cap l.j6 else m0) - l0:=by
          cases hmn:mx with
          | none=>
            have h5:=h4 hmn
            cases op with
            | true=>simp [iO];omega
            | false=>simp [iO];omega
          | some _=>simp [iO]
         rw[e2] at this;exact this
     · simp at e
   · simp at e
 · simp at e
end Go.Ab
end
section
namespace Go.Ab
variable {E:Env}
theorem rR:∀(l:List Value) (k off:Nat) (C:Array Value),(l.zipIdx k).foldl (fun cs (x:Value×Nat)=>cs.setIfInBounds (off+x.2) x.1) C=lP C (off+k) l
 | [],_,_,_=>rfl
 | v::vs,k,off,C=>by
   rw[List.zipIdx_cons,List.foldl_cons,rR vs (k+1) off,lP,Nat.add_assoc]
theorem LR.setFrom {φ:Ph}:∀{vs:List AV} {s9:List Value} (_:LR φ vs s9) {cs:List AV} {C:Array Value} (_:LR φ cs C.toList) (o:Nat),LR φ (Ab.setFrom cs o vs) (lP C o s9).toList
 | [],s9,hv,cs,C,hc,o=>by rw[hv.kA];exact hc
 | v::vs,s9,hv,cs,C,hc,o=>by
   obtain ⟨y,ys,rfl,hy,yx⟩:=hv.dM
   rw[Ab.setFrom,lP]
   refine LR.setFrom yx ?_ (o+1)
   rw[Array.toList_setIfInBounds]
   exact hc.set hy o
def PR (φ:Ph) (ps:List (Nat×AV)) (qs:List (Nat×Value)):Prop:=ps.length=qs.length∧∀(i:Nat) (x:Nat×AV) (y:Nat×Value),ps[i]? =some x→qs[i]? =some y→x.1=y.1∧VR φ x.2 y.2
theorem PR.dM {φ:Ph} {x:Nat×AV} {xs:List (Nat×AV)} {ys:List (Nat×Value)} (h:PR φ (x::xs) ys):∃y BG,ys=y::BG∧(x.1=y.1∧VR φ x.2 y.2)∧PR φ xs BG:=by
 obtain ⟨hl,hv⟩:=h
 cases ys with
 | nil=>simp at hl
 | cons y ys=>exact ⟨y,ys,rfl,hv 0 x y (by simp) (by simp),by simpa using hl,fun i a b ha hb=>hv (i+1) a b (by simpa using ha) (by simpa using hb)⟩
theorem BJ {φ:Ph} (hg:GL E φ) {ts:List AV} {a:Act} (ht:LR φ ts a.tmps.toList):∀{l:List (Nat×Operand)} {r:List (Nat×AV)} (_:lM E ts l=some r),PR φ r (l.map fun (i,x)=>(i,a.eval x))
 | [],r,h=>by simp [lM] at h;subst h;exact ⟨rfl,fun i x y hx _=>by simp at hx⟩
 | (i,o)::rest,r,h=>by
   simp only[lM] at h
   cases hv:fJ E ts o with
   | none=>simp [hv] at h
   | some v=>
     simp only[hv] at h
     cases hr:lM E ts rest with
     | none=>simp [hr] at h
     | some l=>
       simp only[hr,Option.some.injEq] at h;subst h
       obtain ⟨h1,h2⟩:=BJ hg ht hr
       refine ⟨by simpa using h1,fun j x y hx hy=>?_⟩
       cases j with
       | zero=>simp at hx hy;subst hx;subst hy;exact ⟨rfl,o6 hg ht hv⟩
       | succ j=>simp at hx;exact h2 j x y hx (by simpa using hy)
theorem wM {φ:Ph} {place:Nat→Option (Nat×Nat)}:∀{ps:List (Nat×AV)} {qs:List (Nat×Value)} (_:PR φ ps qs) {cs j4:List AV} {C:Array Value} (_:LR φ cs C.toList) (_:pO place cs ps=some j4),
 ∃C',Instr.fill place C qs=some C'∧LR φ j4 C'.toList
 | [],qs,hp,cs,j4,C,hc,h=>by
   cases qs with
   | nil=>simp [pO] at h;subst h;exact ⟨C,rfl,hc⟩
   | cons q qs=>simp [PR] at hp
 | (i,v)::rest,qs,hp,cs,j4,C,hc,h=>by
   obtain ⟨⟨j,v'⟩,qs',rfl,⟨he,hv⟩,pT⟩:=hp.dM
   simp only at he hv;subst he
   simp only[pO] at h
   simp only[Instr.fill]
   cases Tj:place i with
   | none=>simp [Tj] at h
   | some x=>
     obtain ⟨off,size⟩:=x
     simp only[Tj] at h ⊢
     split at h
     · rename_i Vw
       have Vx:=hv.cells
       have hl:v'.cells.size=size:=by have:=Vx.1;simp at this;omega
       have U2:C.size=cs.length:=by have:=hc.1;simp at this;omega
       have Ho:(decide (v'.cells.size≠size)||decide (off+v'.cells.size>C.size))=false:=by
        simp only[Bool.or_eq_false_iff,decide_eq_false_iff_not];omega
       simp only[Ho,Bool.false_eq_true,if_false]
       have agO:(v'.cells.zipIdx.foldl (fun cs (x:Value×Nat)=>cs.setIfInBounds (off+x.2) x.1) C)=lP C off v'.cells.toList:=by
        rw[←Array.foldl_toList]
        have:=rR v'.cells.toList 0 off C
        simpa using this
       rw[agO]
       exact wM pT (LR.setFrom Vx hc off) h
     · simp at h
theorem Pb {φ:Ph} {t:TypeId} {ps:List (Nat×AV)} {v:AV} (h:JH E t ps=some v) {qs:Array (Nat×Value)} (hp:PR φ ps qs.toList):
 ∃v',VR φ v v'∧∀w,(Instr.build t qs).run E.P w= .ok v' w:=by
 unfold JH at h
 split at h
 · simp at h
 rename_i z hz
 obtain ⟨z',DA,l5⟩:=kf hz
 split at h
 · rename_i fs hu
   split at h
   · simp at h
   rename_i pl Tj
   split at h
   · rename_i cs hf
     simp at h;subst h
     have adV:∀w,(fs.mapM fun f=>do pure (f.offset,←sizeOf f.type):Sem (Array (Nat×Nat))).run E.P w= .ok pl.toArray w:=by
      intro w
      have key:∀(l:List Field) (r:List (Nat×Nat)),fE (fun f=>match b7 E f.type with | some n=>some (f.offset,n) | none=>none) l=some r→
       (l.mapM fun f=>do pure (f.offset,←sizeOf f.type):Sem (List (Nat×Nat))).run E.P w= .ok r w:=by
       intro l
       induction l with
       | nil=>intro r hr;simp [fE] at hr;subst hr;rfl
       | cons f l ih=>
         intro r hr
         simp only[fE] at hr
         cases hs:b7 E f.type with
         | none=>simp [hs] at hr
         | some n=>
           simp only[hs] at hr
           cases hm:fE (fun f=>match b7 E f.type with | some n=>some (f.offset,n) | none=>none) l with
           | none=>simp [hm] at hr
           | some ys=>
             simp only[hm,Option.some.injEq] at hr;subst hr
             simp only[List.mapM_cons,Sem.run_bind,fv hs,Result.andThen_ok,Sem.run_pure,ih ys hm]
      have:=key fs.toList pl Tj
      have hh:(fs.mapM fun f=>do pure (f.offset,←sizeOf f.type):Sem (Array (Nat×Nat)))=(do pure (←(fs.toList.mapM fun f=>do pure (f.offset,←sizeOf f.type):Sem (List (Nat×Nat)))).toArray):=by
       rw[Array.mapM_eq_mapM_toList];rfl
      rw[hh,Sem.run_bind,this];rfl
     obtain ⟨C',CL,CM⟩:=wM (place:=(pl[·]?)) hp (cs:=z.cells) (C:=z'.cells) (DA φ).cells hf
     refine ⟨.agg C',by have:=VR.Th CM;simpa using this,fun w=>?_⟩
     simp only[Instr.build,Sem.run_bind,l5,Result.andThen_ok,run_underlying hu,adV w]
     simp [CL]
   · simp at h
 · rename_i n elem hu
   split at h
   · simp at h
   rename_i n hn
   split at h
   · rename_i cs hf
     simp at h;subst h
     obtain ⟨C',CL,CM⟩:=wM (place:=fun i=>some (i*n,n)) hp (cs:=z.cells) (C:=z'.cells) (DA φ).cells hf
     refine ⟨.agg C',by have:=VR.Th CM;simpa using this,fun w=>?_⟩
     simp [Instr.build,Sem.run_bind,l5,run_underlying hu,fv hn,CL]
   · simp at h
 · simp at h
theorem Mf {φ:Ph}:∀{l:List AV} {x v:AV} (_:O4 x l=some v) {x':Value} (_:VR φ x x') {l':List Value} (_:LR φ l l'),∃v',VR φ v v'∧∀w,(l'.foldlM Builtin.max2 x').run E.P w= .ok v' w
 | [],x,v,h,x',hx,l',hl=>by
   rw[hl.kA]
   cases x<;>simp [O4] at h
   subst h;exact ⟨x',hx,fun w=>rfl⟩
 | y::ys,x,v,h,x',hx,l',hl=>by
   obtain ⟨y',BG,rfl,hy,yx⟩:=hl.dM
   cases x<;>(try (simp [O4] at h;done))
   cases y<;>(try (simp [O4] at h;done))
   cases hx;cases hy
   simp only[O4] at h
   obtain ⟨v',hv,hr⟩:=Mf h (.int _ _) yx
   refine ⟨v',hv,fun w=>?_⟩
   simp only[List.foldlM_cons,Builtin.max2,Sem.run_bind,Sem.run_pure,Result.andThen_ok,hr w]
theorem Mg {φ:Ph}:∀{l:List AV} {x v:AV} (_:O5 x l=some v) {x':Value} (_:VR φ x x') {l':List Value} (_:LR φ l l'),∃v',VR φ v v'∧∀w,(l'.foldlM Builtin.min2 x').run E.P w= .ok v' w
 | [],x,v,h,x',hx,l',hl=>by
   rw[hl.kA]
   cases x<;>simp [O5] at h
   subst h;exact ⟨x',hx,fun w=>rfl⟩
 | y::ys,x,v,h,x',hx,l',hl=>by
   obtain ⟨y',BG,rfl,hy,yx⟩:=hl.dM
   cases x<;>(try (simp [O5] at h;done))
   cases y<;>(try (simp [O5] at h;done))
   cases hx;cases hy
   simp only[O5] at h
   obtain ⟨v',hv,hr⟩:=Mg h (.int _ _) yx
   refine ⟨v',hv,fun w=>?_⟩
   simp only[List.foldlM_cons,Builtin.min2,Sem.run_bind,Sem.run_pure,Result.andThen_ok,hr w]
theorem map_toArray (f:Operand→Value) (l:Array Operand):l.map f=(l.toList.map f).toArray:=by apply Array.ext';simp
def acV (E:Env):Prop:=∀f e,E.n9 f=some e→∀vs r,e vs=some r→∀φ (s9:List Value),LR φ vs s9→
 ∃r',VR φ r r'∧∀w,(callFunc f s9.toArray).run E.P w= .ok (.value r') w
theorem gC {s:Sem Value} {v:Value} {P:Program} {w w':World} (h:s.run P w= .ok v w'):(do pure (.value (←s)):Sem Next).run P w= .ok (.value v) w':=by
 rw[Sem.run_bind,h];rfl
theorem JP {φ:Ph} (hg:GL E φ) {ts:List AV} {a:Act} (ht:LR φ ts a.tmps.toList) {o:Option Operand} {r:Option AV} (h:ov E ts o=some r):O_ φ r (o.map a.eval):=by
 cases o with
 | none=>simp [ov] at h;subst h;trivial
 | some o=>
   simp only[ov] at h
   split at h
   · rename_i v hv;simp at h;subst h;exact o6 hg ht hv
   · simp at h
theorem vo {P:Program} {t:TypeId} {d:TypeDesc} (hu:P.underlying t=some d) (hd:∀m,d= .interface m→False) (v:Value) (xT:TypeId) (ok:Bool) (w:World):
 (Instr.typeAssert (.iface t v) xT t ok).run P w= .ok (if ok then .tuple #[v,.bool true] else v) w:=by
 rw[Instr.typeAssert,Sem.run_bind,run_underlying hu]
 cases d<;>first | (exact (hd _ rfl).elim) | (simp;done)
theorem DB {P:Program} {t u:TypeId} {d:TypeDesc} (hu:P.underlying t=some d) (hd:∀m,d= .interface m→False) (v:Value) (xT:TypeId) (fH:u≠t) {z:Value} (w:World) (hz:(zeroValue t).run P w= .ok z w):
 (Instr.typeAssert (.iface u v) xT t true).run P w= .ok (.tuple #[z,.bool false]) w:=by
 rw[Instr.typeAssert,Sem.run_bind,run_underlying hu]
 cases d<;>first | (exact (hd _ rfl).elim) | (simp [fH,hz];done)
theorem EC {P:Program} {t:TypeId} {d:TypeDesc} (hu:P.underlying t=some d) (hd:∀m,d= .interface m→False) (xT:TypeId) {z:Value} (w:World) (hz:(zeroValue t).run P w= .ok z w):
 (Instr.typeAssert .nilIface xT t true).run P w= .ok (.tuple #[z,.bool false]) w:=by
 rw[Instr.typeAssert,Sem.run_bind,run_underlying hu]
 cases d<;>first | (exact (hd _ rfl).elim) | (simp [hz];done)
set_option maxHeartbeats 1000000 in
theorem CO (agP:acV E) {φ:Ph} (hg:GL E φ) {ts:List AV} {a:Act} (ht:LR φ ts a.tmps.toList) {o:Oper} {v:AV} (h:bx E ts o.op=some v):
 ∃v',VR φ v v'∧∀w,(execOp a.eval o).run E.P w= .ok (.value v') w:=by
 have ev:∀{x:Operand} {v:AV},fJ E ts x=some v→VR φ v (a.eval x):=fun h=>o6 hg ht h
 unfold execOp
 generalize o.op=op at h ⊢
 unfold bx at h
 split at h
 · exact ⟨_,ev h,fun w=>rfl⟩
 · exact ⟨_,ev h,fun w=>rfl⟩
 ·
  split at h
  · rename_i hc
    have:=ev hc
    generalize mD:a.eval _=cv at this
    cases this
    exact ⟨_,ev h,fun w=>by simp [mD,asBool]⟩
  · rename_i hc
    have:=ev hc
    generalize mD:a.eval _=cv at this
    cases this
    exact ⟨_,ev h,fun w=>by simp [mD,asBool]⟩
  · simp at h
 ·
  rename_i t parts
  split at h
  · rename_i ps hps
    have hp:=BJ hg ht hps
    obtain ⟨v',hv,hr⟩:=Pb (φ:=φ) h (qs:=parts.map fun (i,x)=>(i,a.eval x)) (by simpa using hp)
    exact ⟨v',hv,fun w=>gC (hr w)⟩
  · simp at h
 ·
  split at h<;>(try (simp at h;done))
  all_goals
   rename_i hx
   have:=ev hx
   generalize mD:a.eval _=cv at this
   cases this
   simp only[Option.some.injEq] at h;subst h
   first
    | exact ⟨_,.ptr _ ‹_›,fun w=>by simp [mD]⟩
    | exact ⟨_,.map ‹_›,fun w=>by simp [mD]⟩
    | exact ⟨_,.slice _ _ _ _ ‹_›,fun w=>by simp [mD]⟩
    | exact ⟨_,.func _ _ _ _ _ ‹_› ‹_› ‹_› ‹_›,fun w=>by simp [mD]⟩
 ·
  split at h
  · rename_i hx hy
    obtain ⟨v',hv,hr⟩:=Vt h (ev hx) (ev hy)
    exact ⟨v',hv,fun w=>gC (hr w)⟩
  · simp at h
 ·
  split at h
  · rename_i hx
    obtain ⟨v',hv,hr⟩:=aac (E:=E) h (ev hx)
    exact ⟨v',hv,fun w=>gC (hr w)⟩
  · simp at h
 ·
  split at h
  · rename_i hs hd hx
    have:=ev hx
    generalize mD:a.eval _=cv at this
    cases this
    simp at h;subst h
    refine ⟨_,.int _ _,fun w=>gC ?_⟩
    simp [mD,convert,run_underlying hs,run_underlying hd,Conv.intToInt]
  · rename_i d s hs hd hx
    have:=ev hx
    generalize mD:a.eval _=cv at this
    simp at h;subst h
    generalize Pc:s=s0 at this
    cases this
    subst Pc
    refine ⟨_,.str _,fun w=>gC ?_⟩
    simp [mD,convert,run_underlying hs,run_underlying hd]
  · rename_i d k n hs hd hx
    have:=ev hx
    generalize mD:a.eval _=cv at this
    cases this
    unfold Rf at h
    split at h
    · rename_i h0
      simp at h;subst h
      have he:Utf8.encode n=⟨#[UInt8.ofNat n.toNat]⟩:=by
       have hv:Utf8.valid n=true:=by simp [Utf8.valid];omega
       have h1:n.toNat<0x80:=by omega
       simp [Utf8.encode,hv,h1]
      refine ⟨.string ⟨#[UInt8.ofNat n.toNat]⟩,.str ⟨#[UInt8.ofNat n.toNat]⟩,fun w=>gC ?_⟩
      rw[←he]
      cases d<;>simp [mD,convert,run_underlying hs,run_underlying hd,Conv.intToString]
    · simp at h
  · simp at h
 ·
  split at h
  · simp at h
  · rename_i d v0 hn hu hx
    simp at h;subst h
    refine ⟨_,.iface _ _ _ (ev hx),fun w=>gC ?_⟩
    rw[Instr.makeInterface,Sem.run_bind,run_underlying hu]
    cases d<;>first | (exact (hn _ rfl).elim) | rfl
  · simp at h
 ·
  rename_i f first captured
  split at h
  · rename_i ha hb
    simp at h;subst h
    have h1:=jt hg ht ha
    have h2:=jt hg ht hb
    refine ⟨.func (.func f) (first.map a.eval) (captured.map a.eval),?_,fun w=>gC rfl⟩
    rw[map_toArray,map_toArray]
    exact VR.Vk f h1 h2
  · simp at h
 ·
  split at h
  · rename_i hx hl hh hm
    obtain ⟨v',hv,hr⟩:=Pa h (ev hx) (JP hg ht hl) (JP hg ht hh) (JP hg ht hm)
    exact ⟨v',hv,fun w=>gC (hr w)⟩
  · simp at h
 ·
  split at h
  · rename_i fd i o0 hf hx
    split at h
    · rename_i n hn
      split at h
      · simp at h
      · rename_i ZQ
        simp at h;subst h
        have:=ev hx
        generalize mD:a.eval _=cv at this
        cases this with
        | @ptr _ l _ hφ=>
        refine ⟨_,.ptr _ hφ,fun w=>gC ?_⟩
        unfold ow at hf
        split at hf
        · rename_i fs hu
          simp [mD,Instr.fieldAt,run_underlying hu,hf,Instr.sureAddr,fieldPlace,fv hn,ZQ,wK,Nat.add_assoc]
        · simp at hf
    · simp at h
  · simp at h
 ·
  split at h
  · rename_i fd cs hf hx
    have:=ev hx
    generalize mD:a.eval _=cv at this
    obtain ⟨j4,rfl,CM⟩:=this.lr
    obtain ⟨v',hv,hr⟩:=rQ CM h
    refine ⟨v',hv,fun w=>gC ?_⟩
    unfold ow at hf
    split at hf
    · rename_i fs hu
      have:=hr w
      simp [mD,Instr.field,run_underlying hu,hf,asAgg] at this ⊢
      exact this
    · simp at hf
  · simp at h
 ·
  split at h
  · rename_i len elem i o0 k n hu hx hi
    split at h
    · rename_i size hs
      split at h
      · rename_i hb
        simp at h;subst h
        have h1:=ev hx
        have h2:=ev hi
        generalize mD:a.eval _=cv at h1
        generalize hcw:a.eval _=cw at h2
        cases h1 with
        | @ptr _ l _ hφ=>
        cases h2
        refine ⟨_,.ptr _ hφ,fun w=>gC ?_⟩
        simp [mD,hcw,Instr.indexAt,asIntOf,run_underlying hu,Instr.sureAddr,hb,fv hs,wK,Nat.add_assoc]
      · simp at h
    · simp at h
  · rename_i elem i o0 len cap op k n hu hx hi
    split at h
    · rename_i size hs
      split at h
      · rename_i hb
        simp at h;subst h
        have h1:=ev hx
        have h2:=ev hi
        generalize mD:a.eval _=cv at h1
        generalize hcw:a.eval _=cw at h2
        cases h1 with
        | @slice _ l _ _ _ _ hφ=>
        cases h2
        refine ⟨_,.ptr _ hφ,fun w=>gC ?_⟩
        simp [mD,hcw,Instr.indexAt,asIntOf,run_underlying hu,hb,fv hs,wK,Nat.add_assoc]
      · simp at h
    · simp at h
  · simp at h
 ·
  split at h
  · rename_i len elem cs k n hu hx hi
    split at h
    · rename_i size hs
      split at h
      · rename_i hb
        have h1:=ev hx
        have h2:=ev hi
        generalize mD:a.eval _=cv at h1
        generalize hcw:a.eval _=cw at h2
        obtain ⟨j4,rfl,CM⟩:=h1.lr
        cases h2
        obtain ⟨v',hv,hr⟩:=rQ CM h
        refine ⟨v',hv,fun w=>gC ?_⟩
        have:=hr w
        simp [mD,hcw,Instr.index,asIntOf,run_underlying hu,hb,fv hs] at this ⊢
        exact this
      · simp at h
    · simp at h
  · rename_i s k n hu hx hi
    split at h
    · rename_i hn
      split at h
      · rename_i b hb
        simp at h;subst h
        have h1:=ev hx
        have h2:=ev hi
        generalize mD:a.eval _=cv at h1
        generalize hcw:a.eval _=cw at h2
        generalize Pc:s=s0 at h1
        cases h1 with
        | str s'=>
        subst Pc
        cases h2
        refine ⟨_,.int _ _,fun w=>gC ?_⟩
        have hb':s'[n.toNat]? =some b:=by
         have:s'.data[n.toNat]? =some b:=by simpa using hb
         rw[←this];rfl
        simp [mD,hcw,Instr.index,asIntOf,run_underlying hu,hn,hb']
      · simp at h
    · simp at h
  · simp at h
 ·
  split at h
  · rename_i vs hx
    have h1:=ev hx
    generalize mD:a.eval _=cv at h1
    obtain ⟨s9,rfl,CM⟩:=h1.Is
    obtain ⟨y,hy,hv⟩:=CM.get h
    refine ⟨y,hv,fun w=>gC ?_⟩
    simp at hy
    simp [mD,Instr.extract,hy]
  · simp at h
 ·
  split at h
  · simp at h
  · rename_i d t v0 hn hu hx
    have h1:=ev hx
    generalize mD:a.eval _=cv at h1
    cases h1 with
    | iface _ _ v1 hv1=>
    split at h
    · rename_i hta
      subst hta
      simp at h;subst h
      split
      · rename_i rl
        refine ⟨.tuple #[v1,.bool true],VR.tuple' (j4:=[v1,.bool true]) (.cons hv1 (.cons (.bool true) (.nil φ))),fun w=>gC ?_⟩
        rw[mD,vo hu hn,rl];rfl
      · rename_i rl
        refine ⟨v1,hv1,fun w=>gC ?_⟩
        rw[mD,vo hu hn];simp [rl]
    · rename_i hta
      split at h
      · rename_i rl
        split at h
        · rename_i z hz
          simp at h;subst h
          obtain ⟨z',DA,l5⟩:=kf hz
          refine ⟨.tuple #[z',.bool false],VR.tuple' (j4:=[z',.bool false]) (.cons (DA φ) (.cons (.bool false) (.nil φ))),fun w=>gC ?_⟩
          rw[mD,rl];exact DB hu hn _ _ hta w (l5 w)
        · simp at h
      · simp at h
  · rename_i d hn hu hx
    have h1:=ev hx
    generalize mD:a.eval _=cv at h1
    cases h1
    split at h
    · rename_i rl
      split at h
      · rename_i z hz
        simp at h;subst h
        obtain ⟨z',DA,l5⟩:=kf hz
        refine ⟨.tuple #[z',.bool false],VR.tuple' (j4:=[z',.bool false]) (.cons (DA φ) (.cons (.bool false) (.nil φ))),fun w=>gC ?_⟩
        rw[mD,rl];exact EC hu hn _ w (l5 w)
      · simp at h
    · simp at h
  · simp at h
 ·
  split at h
  · rename_i t v0 U3 Pd
    have hl:=jt hg ht Pd
    obtain ⟨y,ys,yx,hy,JQ⟩:=hl.dM
    rw[JQ.kA] at yx
    have ED:∀(args:Array Operand),args.toList.map a.eval=[y]→args.map a.eval= #[y]:=fun args e=>by rw[map_toArray,e]
    have h0:=ED _ yx
    split at h<;>(try (simp at h;done))
    all_goals
     rename_i hu
     simp only[Option.some.injEq] at h;subst h
    · generalize Pc:AV.str _=s0 at hy
      cases hy<;>cases Pc
      rename_i s'
      refine ⟨_,.int _ _,fun w=>?_⟩
      simp [resolve,invoke,builtin,h0,Builtin.len_,U3,run_underlying hu,goInt]
      try rfl
    · refine ⟨_,.int _ _,fun w=>?_⟩
      simp [resolve,invoke,builtin,h0,Builtin.len_,U3,run_underlying hu,goInt]
    · cases hy
      refine ⟨_,.int _ _,fun w=>?_⟩
      simp [resolve,invoke,builtin,h0,Builtin.len_,U3,run_underlying hu,goInt]
    · cases hy
      refine ⟨_,.int _ _,fun w=>?_⟩
      simp [resolve,invoke,builtin,h0,Builtin.len_,U3,run_underlying hu,goInt]
    · cases hy
      refine ⟨_,.int _ _,fun w=>?_⟩
      simp [resolve,invoke,builtin,h0,Builtin.len_,U3,run_underlying hu,goInt]
    · cases hy
      refine ⟨_,.int _ _,fun w=>?_⟩
      simp [resolve,invoke,builtin,h0,Builtin.len_,U3,run_underlying hu,goInt]
  · simp at h
 ·
  split at h
  · rename_i t v0 U3 Pd
    have hl:=jt hg ht Pd
    obtain ⟨y,ys,yx,hy,JQ⟩:=hl.dM
    rw[JQ.kA] at yx
    have ED:∀(args:Array Operand),args.toList.map a.eval=[y]→args.map a.eval= #[y]:=fun args e=>by rw[map_toArray,e]
    have h0:=ED _ yx
    split at h<;>(try (simp at h;done))
    all_goals
     rename_i hu
     simp only[Option.some.injEq] at h;subst h
    · refine ⟨_,.int _ _,fun w=>?_⟩
      simp [resolve,invoke,builtin,h0,Builtin.cap_,U3,run_underlying hu,goInt]
    · cases hy
      refine ⟨_,.int _ _,fun w=>?_⟩
      simp [resolve,invoke,builtin,h0,Builtin.cap_,U3,run_underlying hu,goInt]
    · cases hy
      refine ⟨_,.int _ _,fun w=>?_⟩
      simp [resolve,invoke,builtin,h0,Builtin.cap_,U3,run_underlying hu,goInt,iO]
  · simp at h
 ·
  rename_i args _
  split at h
  · rename_i x rest Pd
    have hl:=jt hg ht Pd
    obtain ⟨y,ys,yx,hy,pT⟩:=hl.dM
    obtain ⟨v',hv,hr⟩:=Mf (E:=E) h hy pT
    refine ⟨v',hv,fun w=>?_⟩
    have h0:args.map a.eval=(y::ys).toArray:=by rw[map_toArray,yx]
    have:=hr w
    simp [resolve,invoke,builtin,h0,Builtin.max_,this]
  · simp at h
 ·
  rename_i args _
  split at h
  · rename_i x rest Pd
    have hl:=jt hg ht Pd
    obtain ⟨y,ys,yx,hy,pT⟩:=hl.dM
    obtain ⟨v',hv,hr⟩:=Mg (E:=E) h hy pT
    refine ⟨v',hv,fun w=>?_⟩
    have h0:args.map a.eval=(y::ys).toArray:=by rw[map_toArray,yx]
    have:=hr w
    simp [resolve,invoke,builtin,h0,Builtin.min_,this]
  · simp at h
 ·
  rename_i f args _
  split at h
  · rename_i e vs he Pd
    have hl:=jt hg ht Pd
    obtain ⟨r',hr,jf⟩:=agP f e he vs v h φ _ hl
    refine ⟨r',hr,fun w=>?_⟩
    have:=jf w
    rw[←map_toArray] at this
    simpa [resolve,Deferred.ofValue,invoke,Act.eval] using this
  · simp at h
 · simp at h
end Go.Ab
end
section
namespace Go.Ab
variable {E:Env}
theorem JR {P:Program} {t:TypeId} {k:IntKind} (hu:P.underlying t=some (.int k)) (b:Bool) (n:Nat) (v:Value) (w:World):
 (Instr.checkKey b (n+1) t v).run P w= .ok () w:=by
 unfold Instr.checkKey
 rw[Sem.run_bind,run_underlying hu]
 rfl
theorem vp {φ:Ph} {t:TypeId} {d:TypeDesc} {k:AV} (hu:E.P.underlying t=some d) (hk:oa E (some d) k=true) {k':Value} (h:VR φ k k') (b:Bool) (n:Nat) (w:World):
 (Instr.checkKey b (n+2) t k').run E.P w= .ok () w:=by
 unfold oa at hk
 split at hk
 · rename_i fs xs hd
   cases hd
   obtain ⟨Es,rfl,Hv⟩:=h.lr
   unfold Instr.checkKey
   rw[Sem.run_bind,run_underlying hu]
   simp only[Result.andThen_ok]
   have key:∀l:List Field,(l.all fun f=>match E.P.underlying f.type,jq E f.type xs f.offset with
    | some (.int _),some (.int _ _)=>true
    | _,_=>false)=true→
    (forIn (m:=Sem) l PUnit.unit fun f (_:PUnit)=>if f.name≠ "_" then (do let x←part f.type Es f.offset;Instr.checkKey b (n+1) f.type x;pure (ForInStep.yield PUnit.unit)) else pure (ForInStep.yield PUnit.unit)).run E.P w= .ok PUnit.unit w:=by
    intro l
    induction l with
    | nil=>intro _;rfl
    | cons f l ih=>
      intro ha
      rw[List.all_cons,Bool.and_eq_true] at ha
      obtain ⟨hf,hl⟩:=ha
      have h2:=ih hl
      split at hf
      · rename_i ki kj z e1 e2
        obtain ⟨v',_,hr⟩:=rQ Hv e2
        rw[Array.toArray_toList] at hr
        simp only[List.forIn_cons,Sem.run_bind]
        split
        · simp only[Sem.run_bind,hr,Result.andThen_ok,JR e1,Sem.run_pure,h2]
        · simp only[Sem.run_pure,Result.andThen_ok,h2]
      · cases hf
   have:=key fs.toList hk
   rw[Array.forIn_toList] at this
   first | exact this | (simp only[Sem.run_bind,this];rfl)
 · cases hk
theorem Iw {φ:Ph}:∀{xs ys:List AV} {Es BG:List Value},ve xs ys=true→LR φ xs Es→LR φ ys BG→BG=Es∧(BG.zip Es).all (fun (x,y)=>Instr.sameBits 9999 x y)=true
 | [],[],Es,BG,_,h,h'=>by rw[h.kA,h'.kA];exact ⟨rfl,rfl⟩
 | .int k a::xs,.int j b::ys,Es,BG,e,h,h'=>by
   obtain ⟨x,xs2,rfl,hx,Hv⟩:=h.dM
   obtain ⟨y,ys2,rfl,hy,yx⟩:=h'.dM
   simp only[ve,Bool.and_eq_true,decide_eq_true_eq] at e
   obtain ⟨⟨rfl,rfl⟩,e⟩:=e
   cases hx;cases hy
   obtain ⟨h1,h2⟩:=Iw e Hv yx
   subst h1
   refine ⟨rfl,?_⟩
   rw[List.zip_cons_cons,List.all_cons,h2,Bool.and_true]
   simp [Instr.sameBits]
theorem JS {φ:Ph} {xs ys:List AV} (e:ve xs ys=true) {k' j':Value} (h:VR φ (.agg xs) k') (h':VR φ (.agg ys) j'):Instr.sameBits 10000 j' k'=true∧j'=k':=by
 obtain ⟨a,rfl,ha⟩:=h.lr
 obtain ⟨b,rfl,hb⟩:=h'.lr
 obtain ⟨h1,h2⟩:=Iw e ha hb
 have hab:b=a:=by cases b;cases a;simp at h1;subst h1;rfl
 subst hab
 refine ⟨?_,rfl⟩
 rw[Instr.sameBits]
 simp only[beq_self_eq_true,Bool.true_and]
 exact h2
def aad (φ:Ph) (k j:AV):Prop:=∀{k' j':Value},VR φ k k'→VR φ j j'→Instr.sameBits 10000 j' k'=true∧j'=k'
theorem rS {φ:Ph} {key:TypeId} {k:AV} {k':Value} (h:VR φ k k'):∀{es:List mn} {mj:List MapEntry} (_:Vl φ es mj) {i:Nat} {r:Option (Nat×AV)} (_:findD E key k es i=some r),
 ∃r',(∀w,(Instr.findAsking key k' mj i).run E.P w= .ok r' w)∧(match r,r' with | none,none=>True | some (j,v),some (j',v')=>j=j'∧VR φ v v'∧i≤j∧∃e,es[j - i]? =some e∧aad φ k e.key | _,_=>False)
 | [],mj,he,i,r,e=>by
   cases mj with
   | nil=>simp [findD] at e;subst e;exact ⟨none,fun w=>rfl,trivial⟩
   | cons _ _=>simp [Vl] at he
 | x::es,mj,he,i,r,e=>by
   obtain ⟨hl,hv⟩:=he
   cases mj with
   | nil=>simp at hl
   | cons y ys=>
     have hx:=hv 0 x y (by simp) (by simp)
     simp only[findD] at e
     split at e
     · rename_i heq
       split at e
       · rename_i zs hz _
         split at e
         · rename_i hs
           simp at e;subst e
           refine ⟨some (i,y.val),fun w=>?_,rfl,hx.val,Nat.le_refl _,x,by simp,?_⟩
           · have q:=pS 16 9984 key _ _ true _ _ heq h hx.key w
             simp only[Instr.findAsking,Sem.run_bind,Op.equal]
             rw[show Op.maxDepth=9984+16 from rfl,q]
             rfl
           · intro a b ha hb
             rw[hz] at hb
             exact JS hs ha hb
         · cases e
       · cases e
     · rename_i heq
       obtain ⟨r',h1,h2⟩:=rS h (es:=es) (mj:=ys) ⟨by simpa using hl,fun i a b p q=>hv (i+1) a b (by simpa using p) (by simpa using q)⟩ e
       refine ⟨r',fun w=>?_,?_⟩
       · have q:=pS 16 9984 key _ _ false _ _ heq h hx.key w
         simp only[Instr.findAsking,Sem.run_bind,Op.equal]
         rw[show Op.maxDepth=9984+16 from rfl,q]
         exact h1 w
       · cases r with
         | none=>cases r' with
           | none=>trivial
           | some _=>exact h2
         | some p=>
           obtain ⟨j,v⟩:=p
           cases r' with
           | none=>exact h2
           | some q=>
             obtain ⟨j',v'⟩:=q
             obtain ⟨h3,h4,h5,e',h6,h7⟩:=h2
             refine ⟨h3,h4,by omega,e',?_,h7⟩
             rw[show j - i=(j -(i+1))+1 by omega];simpa using h6
     · cases e
theorem pA {φ:Ph} {key:TypeId} {d:TypeDesc} {k:AV} (hd:E.P.underlying key=some d) (hk:oa E (some d) k=true) {k':Value} (h:VR φ k k') {mj:List MapEntry} {r':Option (Nat×Value)} {w:World} (hr:(Instr.findAsking key k' mj 0).run E.P w= .ok r' w):
 (Instr.findKey key k' mj).run E.P w= .ok r' w:=by
 unfold oa at hk
 split at hk
 · rename_i fs xs hdd
   cases hdd
   obtain ⟨Es,rfl,Hv⟩:=h.lr
   rw[Instr.findKey,Sem.run_bind,run_underlying hd]
   simp only[Result.andThen_ok]
   cases mj with
   | nil=>exact hr
   | cons y ys=>
     have:Instr.findNow (.struct fs) (.agg Es) (y::ys) 0=none:=rfl
     rw[this]
     exact hr
 · cases hk
end Go.Ab
end
section
namespace Go.Ab
variable {E:Env}
theorem OK.cells {φ:Ph} {h:aw} {w:World} (ok:OK E φ h w) {i:Nat} {cs:List AV} {e:TypeId} {ro:Bool} (hg:h.get i=some (.cells cs e ro)) {l:Loc} (hl:φ i=some l):
 ∃C e' lo hi,w.heap[l.iw]? =some (.cells C e' (lo,hi))∧CR E φ cs e ro l C lo hi:=by
 exact ok.live i _ l hg hl
theorem Ix {φ:Ph} {h:aw} {w:World} (ok:OK E φ h w) {t:TypeId} {av v:AV} {v':Value} (hv:VR φ av v') (e:aY E h t av=some v):
 ∃x',VR φ v x'∧∀w',w'.heap=w.heap→(Instr.loadAt t v').run E.P w'= .ok x' w':=by
 unfold aY at e
 split at e
 · rename_i i o
   cases hv with
   | @ptr _ l _ hφ=>
   split at e
   · rename_i cs el ro hg
     obtain ⟨C,e',lo,hi,hb,hc⟩:=ok.cells hg hφ
     unfold jq at e
     split at e
     · rename_i ha
       split at e
       · rename_i n hn
         split at e
         · rename_i hle
           simp at e;subst e
           obtain ⟨vs,hvl,OU,CM⟩:=hc.range o n hle
           refine ⟨.agg vs.toArray,VR.Th CM,fun w' hw'=>?_⟩
           rw[←hw'] at hb
           have EF:=pz (P:=E.P) hb (l.off+o) vs OU
           rw[hvl] at EF
           simp only[Instr.loadAt,Instr.sureAddr,Sem.run_bind,Sem.run_pure,Result.andThen_ok,loadVar,s6 ha,if_true,fv hn,EF]
         · simp at e
       · simp at e
     · rename_i ha
       obtain ⟨y,hy,hr⟩:=hc.val o v e
       refine ⟨y,hr,fun w' hw'=>?_⟩
       rw[←hw'] at hb
       simp only[Instr.loadAt,Instr.sureAddr,Sem.run_bind,Sem.run_pure,Result.andThen_ok,loadVar,s6 ha,Bool.false_eq_true,if_false,run_load,s5 hb,hy]
     · simp at e
   · simp at e
 · simp at e
theorem Mh {P:Program} (l:List Int):∀(vs:List Value) (acc:ByteArray) (w:World),vs=l.map (fun n=>Value.int .u8 n)→
 (forIn vs acc (fun c s=>(match c with | .int .u8 n=>do pure (ForInStep.yield (s.push (UInt8.ofNat n.toNat))) | _=>do stuck "bytesToString: byte expected";pure (ForInStep.yield s):Sem (ForInStep ByteArray)))).run P w= .ok ⟨(acc.data.toList++l.map (fun n=>UInt8.ofNat n.toNat)).toArray⟩ w:=by
 induction l with
 | nil=>intro vs acc w h;simp at h;subst h;simp [List.forIn_nil]
 | cons b l ih=>
   intro vs acc w h
   cases vs with
   | nil=>simp at h
   | cons v vs=>
     simp at h
     obtain ⟨rfl,Pd⟩:=h
     simp only[List.forIn_cons,Sem.run_bind,Sem.run_pure,Result.andThen_ok]
     rw[ih vs _ w Pd]
     simp [ByteArray.push]
theorem Iy {φ:Ph} {d:TypeDesc} {k j:AV} {r:Bool} (hk:jU (some d) k=true) (e:Ip k j=some r) {k' j':Value} (h:VR φ k k') (h':VR φ j j'):Instr.sameNow d k' j'=some r:=by
 unfold Ip at e
 split at e
 · generalize hs:AV.str _=s at h
   generalize s7:AV.str _=s' at h'
   cases h<;>cases hs
   cases h'<;>cases s7
   simp at e;subst e
   cases d<;>simp [jU] at hk
   rename_i s s'
   simp only[Instr.sameNow]
   congr 1
 · cases h;cases h'
   split at e
   · rename_i EG
     simp at e;subst e;subst EG
     cases d<;>simp [jU] at hk
     simp [Instr.sameNow]
   · simp at e
 · cases h;cases h'
   simp at e;subst e
   cases d<;>simp [jU] at hk
   simp [Instr.sameNow]
 · simp at e
theorem rT {φ:Ph} {d:TypeDesc} {k:AV} {k':Value} (hk:jU (some d) k=true) (h:VR φ k k'):∀{es:List mn} {mj:List MapEntry} (_:Vl φ es mj) {i:Nat} {r:Option (Nat×AV)} (_:vf k es i=some r),
 ∃r',Instr.findNow d k' mj i=some r'∧(match r,r' with | none,none=>True | some (j,v),some (j',v')=>j=j'∧VR φ v v'∧i≤j∧∃e,es[j - i]? =some e∧Ip k e.key=some true | _,_=>False)
 | [],mj,he,i,r,e=>by
   cases mj with
   | nil=>simp [vf] at e;subst e;exact ⟨none,rfl,trivial⟩
   | cons _ _=>simp [Vl] at he
 | x::es,mj,he,i,r,e=>by
   obtain ⟨hl,hv⟩:=he
   cases mj with
   | nil=>simp at hl
   | cons y ys=>
     have hx:=hv 0 x y (by simp) (by simp)
     simp only[vf] at e
     split at e
     · rename_i heq
       simp at e;subst e
       refine ⟨some (i,y.val),?_,rfl,hx.val,Nat.le_refl _,x,by simp,heq⟩
       simp [Instr.findNow,Iy hk heq h hx.key]
     · rename_i heq
       obtain ⟨r',h1,h2⟩:=rT hk h (es:=es) (mj:=ys) ⟨by simpa using hl,fun i a b p q=>hv (i+1) a b (by simpa using p) (by simpa using q)⟩ e
       refine ⟨r',?_,?_⟩
       · simp [Instr.findNow,Iy hk heq h hx.key,h1]
       · cases r with
         | none=>cases r' with
           | none=>trivial
           | some _=>exact h2
         | some p=>
           obtain ⟨j,v⟩:=p
           cases r' with
           | none=>exact h2
           | some q=>
             obtain ⟨j',v'⟩:=q
             obtain ⟨h3,h4,h5,e',h6,h7⟩:=h2
             refine ⟨h3,h4,by omega,e',?_,h7⟩
             rw[show j - i=(j -(i+1))+1 by omega];simpa using h6
     · simp at e
theorem s_ {P:Program} {t:TypeId} {d:TypeDesc} (hu:P.underlying t=some d) {k:AV} (hk:jU (some d) k=true) {φ:Ph} {k':Value} (h:VR φ k k') (b:Bool) (n:Nat) (w:World):
 (Instr.checkKey b (n+1) t k').run P w= .ok () w:=by
 unfold Instr.checkKey
 rw[Sem.run_bind,run_underlying hu]
 cases d<;>simp [jU] at hk<;>cases h<;>first | rfl | (simp [jU] at hk)
theorem zN {P:Program} {w:World} {a:Addr} {n:Nat} (l:List Int) (hl:(loadCells a n).run P w= .ok ((l.map (fun n=>Value.int .u8 n)).toArray) w) (c:Nat):
 (Conv.bytesToString (.slice (some a) n c)).run P w= .ok (.string ⟨(l.map (fun n=>UInt8.ofNat n.toNat)).toArray⟩) w:=by
 unfold Conv.bytesToString
 simp only[Sem.run_bind,hl,Result.andThen_ok]
 have:=Mh (P:=P) l (l.map (fun n=>Value.int .u8 n)) ByteArray.empty w rfl
 have e:forIn (m:=Sem) (l.map (fun n=>Value.int .u8 n)).toArray ByteArray.empty (fun c s=>(match c with | .int .u8 n=>do pure (ForInStep.yield (s.push (UInt8.ofNat n.toNat))) | _=>do stuck "bytesToString: byte expected";pure (ForInStep.yield s):Sem (ForInStep ByteArray)))
  =forIn (m:=Sem) (l.map (fun n=>Value.int .u8 n)) ByteArray.empty (fun c s=>(match c with | .int .u8 n=>do pure (ForInStep.yield (s.push (UInt8.ofNat n.toNat))) | _=>do stuck "bytesToString: byte expected";pure (ForInStep.yield s):Sem (ForInStep ByteArray))):=by
  rw[←Array.forIn_toList]
 rw[←e] at this
 refine (congrArg (fun r=>Result.andThen r fun a w'=>Sem.run P (pure (Value.string a)) w') this).trans ?_
 simp
theorem CP {φ:Ph}:∀{cs:List AV} {vs:List Value} (_:LR φ cs vs) {l:List UInt8} (_:fE (fun | .int .u8 b=>some (UInt8.ofNat b.toNat) | _=>none) cs=some l),
 ∃ns:List Int,vs=ns.map (fun n=>Value.int .u8 n)∧l=ns.map (fun n=>UInt8.ofNat n.toNat)
 | [],vs,hv,l,h=>by rw[hv.kA];simp [fE] at h;subst h;exact ⟨[],rfl,rfl⟩
 | c::cs,vs,hv,l,h=>by
   obtain ⟨y,ys,rfl,hy,yx⟩:=hv.dM
   simp only[fE] at h
   split at h
   · simp at h
   · rename_i b hb
     split at h
     · simp at h
     · rename_i bs hbs
       simp at h;subst h
       obtain ⟨ns,rfl,rfl⟩:=CP yx hbs
       split at hb
       · cases hy
         simp at hb;subst hb
         exact ⟨_::ns,rfl,rfl⟩
       · simp at hb
structure Entries (P:Program) (x:Value) (es:Array MapEntry) (w:World):Prop where
 is:(x= .map none∧es= #[])∨∃r clock,x= .map (some r)∧w.heap[r]? =some (.map es clock)
theorem EH {P:Program} {t key elem:TypeId} (hu:P.underlying t=some (.map key elem)) {x k:Value} {es:Array MapEntry} {w:World} (BK:Entries P x es w)
 {d:TypeDesc} (hd:P.underlying key=some d) (OV:∀b n,(Instr.checkKey b (n+1) key k).run P w= .ok () w) {r:Option (Nat×Value)} (hf:Instr.findNow d k es.toList 0=some r) {z:Value} (hz:r=none→(zeroValue elem).run P w= .ok z w) (ok:Bool):
 (Instr.lookup t x k ok).run P w= .ok (match r with | some (_,v)=>if ok then .tuple #[v,.bool true] else v | none=>if ok then .tuple #[z,.bool false] else z) w:=by
 have Tk:=fun b=>OV b 9999
 rw[Instr.lookup]
 simp only[Sem.run_bind,run_underlying hu,Result.andThen_ok]
 rcases BK.is with ⟨rfl,rfl⟩ | ⟨b,clock,rfl,hb⟩
 · simp only[Sem.run_bind,Sem.run_pure,Result.andThen_ok,Tk,Instr.findKey,run_underlying hd,hf]
   cases r with
   | none=>simp [hz rfl]
   | some q=>simp
 · have Hx:(getObj b).run P w= .ok (.map es clock) w:=by simp [getObj,Sem.run,hb]
   simp only[Sem.run_bind,Sem.run_pure,Result.andThen_ok,Hx,Tk,Instr.findKey,run_underlying hd,hf]
   cases r with
   | none=>simp [hz rfl]
   | some q=>simp
theorem CQ {P:Program} {t key elem:TypeId} (hu:P.underlying t=some (.map key elem)) {x k:Value} {es:Array MapEntry} {w:World} (BK:Entries P x es w)
 (OV:∀b,(Instr.checkKey b 10000 key k).run P w= .ok () w) {r:Option (Nat×Value)} (hf:(Instr.findKey key k es.toList).run P w= .ok r w) {z:Value} (hz:r=none→(zeroValue elem).run P w= .ok z w) (ok:Bool):
 (Instr.lookup t x k ok).run P w= .ok (match r with | some (_,v)=>if ok then .tuple #[v,.bool true] else v | none=>if ok then .tuple #[z,.bool false] else z) w:=by
 rw[Instr.lookup]
 simp only[Sem.run_bind,run_underlying hu,Result.andThen_ok]
 rcases BK.is with ⟨rfl,rfl⟩ | ⟨b,clock,rfl,hb⟩
 · simp only[Sem.run_bind,Sem.run_pure,Result.andThen_ok,OV,hf]
   cases r with
   | none=>simp [hz rfl]
   | some q=>simp
 · have Hx:(getObj b).run P w= .ok (.map es clock) w:=by simp [getObj,Sem.run,hb]
   simp only[Sem.run_bind,Sem.run_pure,Result.andThen_ok,Hx,OV,hf]
   cases r with
   | none=>simp [hz rfl]
   | some q=>simp
theorem CS {φ:Ph} (hg:GL E φ) {h:aw} {w:World} (ok:OK E φ h w) {ts:List AV} {a:Act} (ht:LR φ ts a.tmps.toList) {o:Oper} {v:AV} (e:fb E ts h o.op=some v):
 ∃v',VR φ v v'∧∀w',w'.heap=w.heap→(execOp a.eval o).run E.P w'= .ok (.value v') w':=by
 have ev:∀{x:Operand} {v:AV},fJ E ts x=some v→VR φ v (a.eval x):=fun h=>o6 hg ht h
 unfold execOp
 generalize o.op=op at e ⊢
 unfold fb at e
 split at e
 ·
  split at e
  · rename_i hx
    obtain ⟨x',hx',hr⟩:=Ix ok (ev hx) e
    exact ⟨x',hx',fun w' hw=>gC (hr w' hw)⟩
  · simp at e
 ·
  split at e
  · rename_i el v0 hs hd hx
    split at e
    · rename_i he
      simp at e;subst e
      have h1:=ev hx
      generalize mD:a.eval _=cv at h1
      cases h1
      refine ⟨.string .empty,VR.str .empty,fun w' _=>gC ?_⟩
      simp [mD,convert,run_underlying hs,run_underlying hd,run_underlying he,Conv.bytesToString]
    · rename_i i o len _ _ he
      split at e
      · rename_i l hb
        simp at e;subst e
        have h1:=ev hx
        generalize mD:a.eval _=cv at h1
        cases h1 with
        | @slice _ lc _ _ _ _ hφ=>
        unfold JI at hb
        split at hb
        · rename_i cs el' ro hgc
          split at hb
          · rename_i hle
            obtain ⟨C,e',lo,hi,hbk,hc⟩:=ok.cells hgc hφ
            obtain ⟨vs,hvl,OU,CM⟩:=hc.range o len hle
            obtain ⟨ns,rfl,rfl⟩:=CP CM hb
            refine ⟨.string ⟨(ns.map (fun n=>UInt8.ofNat n.toNat)).toArray⟩,?_,fun w' hw'=>gC ?_⟩
            · have:=VR.str (φ:=φ) ⟨(ns.map (fun n=>UInt8.ofNat n.toNat)).toArray⟩
              simpa using this
            · rw[←hw'] at hbk
              have EF:=pz (P:=E.P) hbk (lc.off+o) _ OU
              rw[hvl] at EF
              have:=zN ns EF (iO ‹_› ‹_› lc.j6)
              rw[mD]
              simp only[convert,Sem.run_bind,run_underlying hs,run_underlying hd,Result.andThen_ok,run_underlying he]
              exact this
          · simp at hb
        · simp at hb
      · simp at e
    · simp at e
  · simp at e
 ·
  rename_i t x ix iN
  split at e
  · rename_i key elem m k hu hm hk
    split at e
    · rename_i EG
      have Pe:∃d,E.P.underlying key=some d∧jU (some d) k=true:=by
       cases hd:E.P.underlying key with
       | none=>rw[hd] at EG;simp [jU] at EG
       | some d=>rw[hd] at EG;exact ⟨d,rfl,EG⟩
      obtain ⟨d,hd,EI⟩:=Pe
      have hmv:=ev hm
      have Vy:=ev hk
      split at e
      · simp at e
      · rename_i es BK
        have BL:∃mj:Array MapEntry,Vl φ es mj.toList∧∀w',w'.heap=w.heap→Entries E.P (a.eval x) mj w':=by
         split at BK
         · simp at BK;subst BK
           generalize mD:a.eval x=cv at hmv
           cases hmv
           exact ⟨#[],⟨rfl,fun i x y p _=>by simp at p⟩,fun w' _=>⟨.inl ⟨rfl,rfl⟩⟩⟩
         · rename_i i
           split at BK
           · rename_i es0 clock hgm
             simp at BK;subst BK
             generalize mD:a.eval x=cv at hmv
             cases hmv with
             | @map _ l hφ=>
             have Hp:=ok.live i _ l hgm hφ
             obtain ⟨Vz,mj,hb,mq⟩:=Hp
             exact ⟨mj,mq,fun w' hw=>⟨.inr ⟨l.iw,clock,rfl,by rw[hw];exact hb⟩⟩⟩
           · simp at BK
         · simp at BK
        obtain ⟨mj,mq,jf⟩:=BL
        split at e
        · simp at e
        · rename_i j v0 hf
          obtain ⟨r',h1,h2⟩:=rT EI Vy mq hf
          cases r' with
          | none=>exact h2.elim
          | some q=>
          obtain ⟨j',v'⟩:=q
          obtain ⟨_,OU,_⟩:=h2
          simp at e;subst e
          refine ⟨if iN then .tuple #[v',.bool true] else v',?_,fun w' hw=>gC ?_⟩
          · split
            · exact VR.tuple' (j4:=[v',.bool true]) (.cons OU (.cons (.bool true) (.nil φ)))
            · exact OU
          · exact EH hu (jf w' hw) hd (fun b n=>s_ hd EI Vy b n w') h1 (z:=undef) (fun e=>by simp at e) iN
        · rename_i hf
          obtain ⟨r',h1,h2⟩:=rT EI Vy mq hf
          cases r' with
          | some q=>exact h2.elim
          | none=>
          split at e
          · rename_i z hz
            simp at e;subst e
            obtain ⟨z',DA,l5⟩:=kf hz
            refine ⟨if iN then .tuple #[z',.bool false] else z',?_,fun w' hw=>gC ?_⟩
            · split
              · exact VR.tuple' (j4:=[z',.bool false]) (.cons (DA φ) (.cons (.bool false) (.nil φ)))
              · exact DA φ
            · exact EH hu (jf w' hw) hd (fun b n=>s_ hd EI Vy b n w') h1 (fun _=>l5 w') iN
          · simp at e
    · split at e
      · rename_i EG
        have Pe:∃d,E.P.underlying key=some d∧oa E (some d) k=true:=by
         cases hd:E.P.underlying key with
         | none=>rw[hd] at EG;simp [oa] at EG
         | some d=>rw[hd] at EG;exact ⟨d,rfl,EG⟩
        obtain ⟨d,hd,EI⟩:=Pe
        have hmv:=ev hm
        have Vy:=ev hk
        split at e
        · simp at e
        · rename_i es BK
          have BL:∃mj:Array MapEntry,Vl φ es mj.toList∧∀w',w'.heap=w.heap→Entries E.P (a.eval x) mj w':=by
           split at BK
           · simp at BK;subst BK
             generalize mD:a.eval x=cv at hmv
             cases hmv
             exact ⟨#[],⟨rfl,fun i x y p _=>by simp at p⟩,fun w' _=>⟨.inl ⟨rfl,rfl⟩⟩⟩
           · rename_i i
             split at BK
             · rename_i es0 clock hgm
               simp at BK;subst BK
               generalize mD:a.eval x=cv at hmv
               cases hmv with
               | @map _ l hφ=>
               have Hp:=ok.live i _ l hgm hφ
               obtain ⟨Vz,mj,hb,mq⟩:=Hp
               exact ⟨mj,mq,fun w' hw=>⟨.inr ⟨l.iw,clock,rfl,by rw[hw];exact hb⟩⟩⟩
             · simp at BK
           · simp at BK
          obtain ⟨mj,mq,jf⟩:=BL
          split at e
          · simp at e
          · rename_i j v0 hf
            obtain ⟨r',h1,h2⟩:=rS Vy mq hf
            cases r' with
            | none=>exact h2.elim
            | some q=>
            obtain ⟨j',v'⟩:=q
            obtain ⟨_,OU,_⟩:=h2
            simp at e;subst e
            refine ⟨if iN then .tuple #[v',.bool true] else v',?_,fun w' hw=>gC ?_⟩
            · split
              · exact VR.tuple' (j4:=[v',.bool true]) (.cons OU (.cons (.bool true) (.nil φ)))
              · exact OU
            · exact CQ hu (jf w' hw) (fun b=>vp hd EI Vy b 9998 w') (pA hd EI Vy (h1 w')) (z:=undef) (fun e=>by simp at e) iN
          · rename_i hf
            obtain ⟨r',h1,h2⟩:=rS Vy mq hf
            cases r' with
            | some q=>exact h2.elim
            | none=>
            split at e
            · rename_i z hz
              simp at e;subst e
              obtain ⟨z',DA,l5⟩:=kf hz
              refine ⟨if iN then .tuple #[z',.bool false] else z',?_,fun w' hw=>gC ?_⟩
              · split
                · exact VR.tuple' (j4:=[z',.bool false]) (.cons (DA φ) (.cons (.bool false) (.nil φ)))
                · exact DA φ
              · exact CQ hu (jf w' hw) (fun b=>vp hd EI Vy b 9998 w') (pA hd EI Vy (h1 w')) (fun _=>l5 w') iN
            · simp at e
      · simp at e
  · simp at e
 ·
  split at e
  · rename_i t i U3 Pd
    have hl:=jt hg ht Pd
    obtain ⟨y,ys,yx,hy,JQ⟩:=hl.dM
    rw[JQ.kA] at yx
    have h0:∀(args:Array Operand),args.toList.map a.eval=[y]→args.map a.eval= #[y]:=fun args e=>by rw[map_toArray,e]
    have h0:=h0 _ yx
    cases hy with
    | @map _ l hφ=>
    split at e
    · rename_i es clock hu hgm
      simp at e;subst e
      have Hp:=ok.live i _ l hgm hφ
      obtain ⟨Vz,mj,hb,hlen,_⟩:=Hp
      refine ⟨_,.int _ _,fun w' hw=>?_⟩
      rw[←hw] at hb
      have Hx:(getObj l.iw).run E.P w'= .ok (.map mj clock) w':=by simp [getObj,Sem.run,hb]
      simp [resolve,invoke,builtin,h0,Builtin.len_,U3,run_underlying hu,goInt,Hx,hlen]
    · simp at e
  · simp at e
 · simp at e
end Go.Ab
end
section
namespace Go.Ab
variable {E:Env}
theorem zO (z:List AV):∀(n i:Nat),i<n*z.length→(bP z n)[i]? =z[i%z.length]?
 | 0,i,h=>by omega
 | n+1,i,h=>by
   rw[bP]
   by_cases hi:i<z.length
   · rw[List.getElem?_append_left hi,Nat.mod_eq_of_lt hi]
   · rw[List.getElem?_append_right (by omega),zO z n (i - z.length) (by rw[Nat.add_mul] at h;omega)]
     rw[Nat.mod_eq_sub_mod (a:=i) (by omega)]
theorem o7 (z:List AV):∀n,(bP z n).length=n*z.length
 | 0=>by simp [bP]
 | n+1=>by rw[bP,List.length_append,o7 z n,Nat.add_mul];omega
theorem Pf {φ:Ph} {z:List AV} {z':Array Value} (h:LR φ z z'.toList) (n:Nat):LR φ (bP z n) ((Array.range (n*z'.size)).map (fun i=>z'[i%z'.size]!)).toList:=by
 have hl:z.length=z'.size:=by simpa using h.1
 refine ⟨by rw[o7];simp [hl],fun i x y hx hy=>?_⟩
 have hi:i<n*z.length:=by
  have:=(List.getElem?_eq_some_iff.1 hx).1
  rwa [o7] at this
 rw[zO z n i hi] at hx
 obtain ⟨v,hv,hr⟩:=h.get hx
 have adW:0<z'.size:=by
  rcases Nat.eq_zero_or_pos z'.size with h0 | h0
  · rw[hl,h0] at hi;omega
  · exact h0
 have:i%z'.size<z'.size:=Nat.mod_lt _ adW
 rw[hl] at hi
 simp [hi] at hy
 rw[hl] at hv
 simp [this] at hv
 simp [this] at hy
 rw[←hy,hv];exact hr
structure Made (E:Env) (φ:Ph) (obj:aH) (mk:Nat→AV) (O:Obj) (mk':Nat→Value):Prop where
 val:∀(φ':Ph) (i b:Nat),φ.le φ'→φ' i=some ⟨b,0,0⟩→VR φ' (mk i) (mk' b)
 obj:∀(φ':Ph) (b:Nat),φ.le φ'→OR E φ' obj ⟨b,0,0⟩ (some O)
theorem zP {φ φ':Ph} (hle:φ.le φ') {cs:List AV} {C:Array Value} (h:LR φ cs C.toList) (t e:TypeId) (b:Nat):OR E φ' (.cells cs t false) ⟨b,0,0⟩ (some (.cells C e)):=by
 refine ⟨C,e,0,0,rfl,?_,fun k x hk=>?_,fun _ k _ _=>by omega,fun _ _ _=>rfl⟩
 · have:=h.1;simp at this;simp [gT,this]
 · obtain ⟨y,hy,hr⟩:=h.get hk
   exact ⟨y,by simpa using hy,hr.mono hle⟩
set_option linter.unusedSimpArgs false in
set_option maxHeartbeats 1000000 in
theorem zQ {φ:Ph} (hg:GL E φ) {ts:List AV} {a:Act} (ht:LR φ ts a.tmps.toList) {o:Oper} {obj:aH} {mk:Nat→AV} (e:fp E ts o.op=some (obj,mk)):
 ∃O mk',Made E φ obj mk O mk'∧∀w,(execOp a.eval o).run E.P w= .ok (.value (mk' w.heap.size)) (w.alloc O):=by
 have ev:∀{x:Operand} {v:AV},fJ E ts x=some v→VR φ v (a.eval x):=fun h=>o6 hg ht h
 unfold execOp
 generalize o.op=op at e ⊢
 unfold fp at e
 split at e
 ·
  rename_i t
  split at e
  · rename_i z hz
    simp at e;obtain ⟨rfl,rfl⟩:=e
    obtain ⟨z',DA,l5⟩:=kf hz
    refine ⟨.cells z'.cells t,fun b=> .pointer (some ⟨b,0,none⟩),⟨fun φ' i b _ hi=>by have:=VR.ptr (φ:=φ') 0 hi;simpa using this,fun φ' b hle=>zP hle (DA φ).cells _ _ b⟩,fun w=>gC ?_⟩
    simp [Instr.alloc,l5,newVar,newRow]
  · simp at e
 ·
  rename_i t x
  split at e
  · rename_i v hv
    simp at e;obtain ⟨rfl,rfl⟩:=e
    refine ⟨.cells (a.eval x).cells t,fun b=> .pointer (some ⟨b,0,none⟩),⟨fun φ' i b _ hi=>by have:=VR.ptr (φ:=φ') 0 hi;simpa using this,fun φ' b hle=>zP hle (ev hv).cells _ _ b⟩,fun w=>gC ?_⟩
    simp [Instr.box,newVar,newRow]
  · simp at e
 ·
  rename_i t len parts
  split at e
  · rename_i elem hu
    split at e
    · rename_i n z ps hn hz hps
      split at e
      · rename_i hc
        split at e
        · rename_i cs hf
          simp at e;obtain ⟨rfl,rfl⟩:=e
          obtain ⟨z',DA,l5⟩:=kf hz
          have hp:=BJ hg ht hps
          have hzl:z'.cells.size=n:=by have:=(DA φ).cells.1;simp at this;omega
          have VA:=Pf (DA φ).cells len
          rw[hzl] at VA
          obtain ⟨C',CL,CM⟩:=wM (place:=fun i=>some (i*n,n)) (qs:=(parts.map fun (i,x)=>(i,a.eval x)).toList) (by simpa using hp) VA hf
          refine ⟨.cells C' elem,fun b=> .slice (some ⟨b,0,none⟩) len len,⟨fun φ' i b _ hi=>by have:=VR.slice (φ:=φ') 0 len len false hi;simpa [iO] using this,fun φ' b hle=>zP hle CM _ _ b⟩,fun w=>gC ?_⟩
          have h24:¬len*n>2^24:=by omega
          simp only[Instr.buildSlice,Sem.run_bind,run_underlying hu,Result.andThen_ok,fv hn,h24,if_false,Sem.run_pure]
          by_cases h0:len*n=0
          · simp only[h0,if_true,Sem.run_pure,Result.andThen_ok]
            rw[h0] at CL
            have r0:Array.range 0= #[]:=rfl
            simp [r0] at CL
            simp [CL,newRow,r0]
          · simp only[h0,if_false,Sem.run_bind,l5,Result.andThen_ok,Sem.run_pure]
            rw[hzl]
            simp only[CL]
            simp [newRow]
        · simp at e
      · simp at e
    · simp at e
  · simp at e
 ·
  rename_i t lo co
  split at e
  · rename_i elem k len k' cap hu hl hc
    split at e
    · rename_i n bytes z hn hb hz
      split at e
      · rename_i Vw
        obtain ⟨c1,c2,c3,c4,c5⟩:=Vw
        simp at e;obtain ⟨rfl,rfl⟩:=e
        obtain ⟨z',DA,l5⟩:=kf hz
        have hzl:z'.cells.size=n:=by have:=(DA φ).cells.1;simp at this;omega
        have VA:=Pf (DA φ).cells cap.toNat
        rw[hzl] at VA
        have h1:=ev hl
        have h2:=ev hc
        generalize hlv:a.eval lo=lv at h1
        generalize mD:a.eval co=cv at h2
        cases h1;cases h2
        refine ⟨.cells ((Array.range (cap.toNat*n)).map (fun i=>z'.cells[i%n]!)) elem,fun b=> .slice (some ⟨b,0,none⟩) len.toNat cap.toNat,
         ⟨fun φ' i b _ hi=>by have:=VR.slice (φ:=φ') 0 len.toNat cap.toNat false hi;simpa [iO] using this,fun φ' b hle=>zP hle VA _ _ b⟩,fun w=>gC ?_⟩
        have w1:IntKind.i64.wrap len=len:=IntWalk.i64_in _ (by omega)
        have w2:IntKind.i64.wrap cap=cap:=IntWalk.i64_in _ (by omega)
        obtain ⟨inf,Mi,mU⟩:=rP hb w
        have t1:¬(cap<0∨(2^48:Int)<bytes*cap):=by omega
        simp only[Instr.makeSlice,Sem.run_bind,run_underlying hu,Result.andThen_ok,hlv,mD,asInt,asIntOf,Sem.run_pure,Mi,mU,w1,w2]
        have hb0:(0:Int)≤inf.bytes*cap:=Int.mul_nonneg (by omega) (by omega)
        have tl:(decide (cap<0)||decide ((inf.bytes:Int)*cap>2^48))=false:=by
         rw[mU];simp only[Bool.or_eq_false_iff,decide_eq_false_iff_not];omega
        have tl2:decide (len<0)=false:=by simp only[decide_eq_false_iff_not];omega
        have tl3:decide (len>cap)=false:=by simp only[decide_eq_false_iff_not];omega
        rw[←mU]
        simp only[tl,tl2,tl3,Bool.or_self,Bool.false_eq_true,if_false,run_askRoom,fv hn,Sem.run_bind,Result.andThen_ok]
        by_cases h0:cap.toNat*n=0
        · have r0:Array.range 0= #[]:=rfl
          simp [h0,newRow,r0]
        · simp only[h0,if_false,Sem.run_bind,l5,Result.andThen_ok,Sem.run_pure]
          simp [newRow,hzl]
      · simp at e
    · simp at e
  · simp at e
 ·
  rename_i t r
  split at e
  · simp at e;obtain ⟨rfl,rfl⟩:=e
    exact ⟨.map #[] 0,fun b=> .map (some b),⟨fun φ' i b _ hi=>by have:=VR.map (φ:=φ') hi;simpa using this,fun φ' b hle=>⟨rfl, #[],rfl,rfl,fun i x y p _=>by simp at p⟩⟩,fun w=>gC (by simp [Instr.makeMap])⟩
  · rename_i o
    split at e
    · rename_i hu hv
      simp at e;obtain ⟨rfl,rfl⟩:=e
      have h1:=ev hv
      generalize hlv:a.eval o=lv at h1
      cases h1
      exact ⟨.map #[] 0,fun b=> .map (some b),⟨fun φ' i b _ hi=>by have:=VR.map (φ:=φ') hi;simpa using this,fun φ' b hle=>⟨rfl, #[],rfl,rfl,fun i x y p _=>by simp at p⟩⟩,fun w=>gC (by simp [Instr.makeMap,run_underlying hu,hlv,asInt,asIntOf])⟩
    · simp at e
 ·
  rename_i t x
  split at e
  · rename_i s hu hx
    simp at e;obtain ⟨rfl,rfl⟩:=e
    have h1:=ev hx
    generalize hlv:a.eval x=lv at h1
    generalize Pc:AV.str s=s0 at h1
    cases h1<;>cases Pc
    rename_i s'
    exact ⟨.stringIter s' 0,fun b=> .pointer (some ⟨b,0,none⟩),⟨fun φ' i b _ hi=>by have:=VR.ptr (φ:=φ') 0 hi;simpa using this,fun φ' b hle=>⟨rfl,s',rfl,rfl⟩⟩,fun w=>gC (by simp [Instr.range,run_underlying hu,hlv])⟩
  · rename_i hu hx
    simp at e;obtain ⟨rfl,rfl⟩:=e
    have h1:=ev hx
    generalize hlv:a.eval x=lv at h1
    cases h1
    exact ⟨.mapIter none 0 #[] 0,fun b=> .pointer (some ⟨b,0,none⟩),⟨fun φ' i b _ hi=>by have:=VR.ptr (φ:=φ') 0 hi;simpa using this,fun φ' b hle=>⟨rfl,rfl⟩⟩,fun w=>gC (by simp [Instr.range,run_underlying hu,hlv])⟩
  · simp at e
 · simp at e
end Go.Ab
end
