import Derived.Laws.StructEq
import Derived.Laws.Slices
import Derived.Laws.Strings
import Derived.ChangeKeysEq
import Derived.Deep.MidRow
import Derived.Lib.Strings
import Derived.IntWalk
import Derived.Test.YtobmbjlcklkpoaaA0
set_option linter.unusedVariables false
set_option linter.unusedSimpArgs false
section
namespace Go.Ab
variable {E:Env}
def GL (E:Env) (φ:Ph):Prop:=∀g,g<E.G→φ g=some ⟨g,0,0⟩
theorem nw {φ:Ph} (hg:GL E φ) {ts:List AV} {a:Act} (ht:LR φ ts a.tmps.toList) {x:Operand} {v:AV} (h:eu E ts x=some v):VR φ v (a.eval x):=by
 cases x with
 | tmp t=>
   simp only[eu,Option.some.injEq] at h;subst h
   have:=ht.getD (VR.undef φ) t
   rw[show a.eval (.tmp t)=a.tmps.toList.getD t undef by simp [Act.eval,Array.getD_eq_getD_getElem?,List.getD]]
   exact this
 | const c=>exact AQ φ h
 | global g=>
   simp only[eu] at h
   split at h
   · rename_i lR;simp at h;subst h;have:=VR.ptr 0 (hg g lR);simpa [Act.eval] using this
   · simp at h
 | func f=>simp [eu] at h;subst h;exact VR.PG (a':=[]) (b':=[]) f (LR.nil φ) (LR.nil φ)
theorem iG {φ:Ph} (hg:GL E φ) {ts:List AV} {a:Act} (ht:LR φ ts a.tmps.toList) {l:List Operand} {r:List AV} (h:f' E ts l=some r):LR φ r (l.map a.eval):=by
 obtain ⟨hl,hv⟩:=sr h
 refine ⟨by simp [hl],fun i x y hx hy=>?_⟩
 simp at hy
 obtain ⟨o,ho,rfl⟩:=hy
 obtain ⟨z,hz,he⟩:=hv i o ho
 rw[hx] at hz;simp at hz;subst hz
 exact nw hg ht he
theorem eE {P:Program} {t:TypeId} {n:Nat} (h:(P.info? t).map (·.size)=some n) (w:World):(sizeOf t).run P w= .ok n w:=by
 cases hq:P.info? t with
 | none=>simp [hq] at h
 | some i=>simp [hq] at h;simp [sizeOf,typeInfo,hq,h]
theorem p_ {P:Program} {t:TypeId} {n:Nat} (h:(P.info? t).map (·.bytes)=some n) (w:World):∃i,(typeInfo t).run P w= .ok i w∧i.bytes=n:=by
 cases hq:P.info? t with
 | none=>simp [hq] at h
 | some i=>simp [hq] at h;exact ⟨i,by simp [typeInfo,hq],h⟩
theorem iH {t:TypeId} {z:AV} (h:fE E t=some z):∃z',(∀φ,VR φ z z')∧∀w,(zeroValue t).run E.P w= .ok z' w:=by
 unfold fE at h
 split at h
 · rename_i i hi
   split at h
   · rename_i z' hz
     exact ⟨z',fun φ=>AQ φ h,fun w=>by simp [zeroValue,typeInfo,hi,hz]⟩
   · simp at h
 · simp at h
theorem qH {t:TypeId} {b:Bool} (h:fF E t=some b) (w:World):(isAgg t).run E.P w= .ok b w:=by
 unfold fF at h
 unfold isAgg
 rw[Sem.run_bind]
 split at h<;>rename_i hu<;>simp at h
 · subst h;rw[run_underlying hu];rfl
 · subst h;rw[run_underlying hu];rfl
 · rename_i d h1 h2
   subst h;rw[run_underlying hu]
   cases d<;>first | rfl | (exact absurd rfl (h1 _)) | (exact absurd rfl (h2 _ _))
theorem toArray_extract (l:List Value) (a b:Nat):l.toArray.extract a b=((l.drop a).take (b - a)).toArray:=by simp
theorem n_ {φ:Ph} {t:TypeId} {cs:List AV} {iO:List Value} (hc:LR φ cs iO) {off:Nat} {v:AV} (h:iB E t cs off=some v):
 ∃v',VR φ v v'∧∀w,(part t iO.toArray off).run E.P w= .ok v' w:=by
 unfold iB at h
 split at h
 · rename_i ha
   split at h
   · rename_i n hn
     split at h
     · simp at h;subst h
       refine ⟨.agg ((iO.drop off).take n).toArray,VR.NQ ((hc.drop off).take n),fun w=>?_⟩
       simp only[part,Sem.run_bind,qH ha,Result.andThen_ok,if_true,eE hn,Sem.run_pure,toArray_extract,Nat.add_sub_cancel_left]
     · simp at h
   · simp at h
 · rename_i ha
   obtain ⟨y,hy,hv⟩:=hc.get h
   refine ⟨y,hv,fun w=>?_⟩
   simp only[part,Sem.run_bind,qH ha,Result.andThen_ok,Bool.false_eq_true,if_false]
   have:iO.toArray[off]? =some y:=by simpa using hy
   simp [this]
 · simp at h
theorem bytes_beq (a b:ByteArray):(a.toList==b.toList)=(a.data.toList==b.data.toList):=by rw[ByteArray.toList_eq,ByteArray.toList_eq]
set_option linter.unusedSimpArgs false in
theorem Kb {φ:Ph} {op:BinOp} {k:IntKind} {x y:Int} {v:AV} (h:dg op k x y=some v) (hs:op≠ .shl) (qI:op≠ .shr) (t:TypeId):
 ∃v',VR φ v v'∧∀w,(binOp op t (.int k x) (.int k y)).run E.P w= .ok v' w:=by
 unfold dg at h
 split at h
 all_goals first
  | (simp at h;subst h;exact ⟨_,.int _ _,fun w=>by simp [binOp,Op.intArith,Op.intBits,Op.intCmp]⟩)
  | (simp at h;subst h;exact ⟨_,.bool _,fun w=>by simp [binOp,Op.intArith,Op.intBits,Op.intCmp]⟩)
  | (split at h
     · simp at h
     · rename_i hy
       simp at h;subst h;exact ⟨_,.int _ _,fun w=>by simp [binOp,Op.intDiv,hy]⟩)
  | simp at h
set_option linter.unusedSimpArgs false in
theorem Kc {φ:Ph} {op:BinOp} {x y:ByteArray} {v:AV} (h:vf op x.data.toList y.data.toList=some v) (t:TypeId):
 ∃v',VR φ v v'∧∀w,(binOp op t (.string x) (.string y)).run E.P w= .ok v' w:=by
 unfold vf at h
 split at h
 · split at h
   · rename_i lR
     simp at h;subst h
     refine ⟨.string (x++y),?_,fun w=>?_⟩
     · have:=VR.str (φ:=φ) (x++y);simpa using this
     · have ag4:x.size+y.size<1099511627776:=by
        have e:∀b:ByteArray,b.size=b.data.toList.length:=fun b=>by cases b;rfl
        rw[e,e];exact lR
       have hm:IntKind.i64.max=9223372036854775807:=by decide
       have:¬((x.size+y.size:Nat):Int) >IntKind.i64.max:=by rw[hm];omega
       simp only[binOp,Op.stringOp,this,if_false,Sem.run_pure]
   · simp at h
 all_goals first
  | (simp only[Option.some.injEq] at h;subst h;exact ⟨_,.bool _,fun w=>by simp only[binOp,Op.stringOp,bytes_beq,ByteArray.toList_eq,Sem.run_pure]⟩)
  | simp at h
theorem Dz {φ:Ph} {t:TypeId} {x y:AV} {r:Bool} (h:NP E t x y=some r) {x' y':Value} (hx:VR φ x x') (hy:VR φ y y') (dd:Nat):
 ∀w,(Op.equalIn (dd+1) t x' y').run E.P w= .ok r w:=by
 intro w
 unfold NP at h
 split at h<;>(try (simp at h;done))
 all_goals
  rename_i hd
  split at h<;>(try (simp at h;done))
  all_goals
   simp only[Option.some.injEq] at h
   subst h
   unfold Op.equalIn
   rw[Sem.run_bind,run_underlying hd]
   cases hx<;>cases hy<;>rfl
theorem Hu {φ:Ph} {t:TypeId} {x y:AV} {r:Bool} (h:NP E t x y=some r) {x' y':Value} (hx:VR φ x x') (hy:VR φ y y'):
 ∀w,(Op.equal t x' y').run E.P w= .ok r w:=Dz h hx hy 9999
theorem pJ {φ:Ph} {eq:TypeId→AV→AV→Option Bool} {d:Nat} (heq:∀t a b r a' b',eq t a b=some r→VR φ a a'→VR φ b b'→∀w,(Op.equalIn d t a' b').run E.P w= .ok r w)
 {xs ys:List AV} {Ay xW:Array Value} (hx:LR φ xs Ay.toList) (hy:LR φ ys xW.toList):∀{fs:List Field} {r:Bool} (_:n9 E eq xs ys fs=some r) (w:World),(Op.eqFields d Ay xW fs).run E.P w= .ok r w
 | [],r,h,w=>by simp [n9] at h;subst h;rfl
 | f::fs,r,h,w=>by
   simp only[n9] at h
   unfold Op.eqFields
   split at h
   · rename_i hn
     rw[if_neg (by simp [hn])]
     exact pJ heq hx hy h w
   · rename_i hn
     rw[if_pos hn]
     split at h
     · rename_i a b ha hb
       obtain ⟨a',hva,hra⟩:=n_ hx ha
       obtain ⟨b',hvb,hrb⟩:=n_ hy hb
       rw[Array.toArray_toList] at hra hrb
       split at h
       · rename_i he
         have:=pJ heq hx hy h w
         simp [Sem.run_bind,hra,hrb,heq _ _ _ _ _ _ he hva hvb,this]
       · rename_i he
         simp at h;subst h
         simp [Sem.run_bind,hra,hrb,heq _ _ _ _ _ _ he hva hvb]
       · simp at h
     · simp at h
theorem oo {φ:Ph}:∀(n d:Nat) (t:TypeId) (a b:AV) (r:Bool) (a' b':Value) (_:iX E n t a b=some r) (_:VR φ a a') (_:VR φ b b') (w:World),(Op.equalIn (d+n) t a' b').run E.P w= .ok r w
 | 0,_,_,_,_,_,_,_,h,_,_,_=>by simp [iX] at h
 | n+1,d,t,a,b,r,a',b',h,ha,hb,w=>by
   rw[←Nat.add_assoc]
   unfold iX at h
   split at h
   · cases ha;cases hb
     split at h
     · rename_i hu
       split at h
       · rename_i hk;subst hk
         simp at h;subst h
         exact run_equalIn_int w (d+n) t _ _ _ _ hu
       · simp at h
     · simp at h
   · cases ha;cases hb
     split at h
     · rename_i hu
       simp only[Option.some.injEq] at h;subst h
       rw[run_equalIn_string w (d+n) t _ _ hu,ByteArray.toList_eq,ByteArray.toList_eq]
     · simp at h
   · obtain ⟨Ay,rfl,CU⟩:=ha.j6
     obtain ⟨xW,rfl,uo⟩:=hb.j6
     split at h
     · rename_i fs hu
       split at h
       · rename_i jk
         have hfs:E.P.fieldsOf t=fs:=by simp [Program.fieldsOf,hu]
         rw[run_equalIn_struct w (d+n) t Ay xW (by rw[hfs];exact hu) jk,hfs]
         exact pJ (fun t a b r a' b' h1 h2 h3 w=>oo n d t a b r a' b' h1 h2 h3 w) CU uo h w
       · simp at h
     · simp at h
   · exact Dz h ha hb (d+n) w
theorem zd {op:BinOp} {t:TypeId} (x y:Operand) (xs ys:Array Value) (h:E.P.eqGuardType E.P.depth t=false) (w:World):(eqGuard op t x y (.agg xs) (.agg ys)).run E.P w= .ok () w:=by
 unfold eqGuard
 cases op<;>(try rfl)
 all_goals simp [Sem.run_bind,run_program,h]
theorem uK {op:BinOp} (h1:op≠ .eql) (h2:op≠ .neq) (t:TypeId) (x y:Operand) (a b:Value) (w:World):(eqGuard op t x y a b).run E.P w= .ok () w:=by
 unfold eqGuard;cases op<;>first | rfl | (exact absurd rfl h1) | (exact absurd rfl h2)
def EP (xc yc:Bool):Value→Value→Bool
 | .nilIface,.nilIface=>xc||yc
 | .agg _,.agg _=>false
 | _,_=>true
theorem mP {op:BinOp} (t:TypeId) (x y:Operand) (a b:Value) (h:EP (isConst x) (isConst y) a b=true) (w:World):
 (eqGuard op t x y a b).run E.P w= .ok () w:=by
 unfold eqGuard
 cases op<;>(try rfl)
 all_goals
  cases a<;>cases b<;>first
   | rfl
   | (simp [EP] at h;done)
   | (cases x<;>cases y<;>first | rfl | (simp [EP,isConst] at h;done))
theorem DA {k k':IntKind} {x y:Int} (hy:¬y<0) (t:TypeId):
 (∀w,(binOp .shl t (.int k x) (.int k' y)).run E.P w= .ok (.int k (k.wrap (x*2^(min y.toNat k.bits)))) w)∧
 (∀w,(binOp .shr t (.int k x) (.int k' y)).run E.P w= .ok (.int k (x.fdiv (2^(min y.toNat k.bits)))) w):=by
 constructor<;>intro w<;>simp [binOp,Op.shift,hy]
theorem AU {φ:Ph} {a b:AV} {a' b':Value} (hx:VR φ a a') (hy:VR φ b b') {xo yo:Operand} (h:pn (isConst xo) (isConst yo) a b=true):
 EP (isConst xo) (isConst yo) a' b'=true:=by
 cases hx<;>cases hy<;>first | rfl | exact h | (simp [pn] at h;done)
def kJ:Value→Prop
 | .float _ _ | .complex _ _ _=>False
 | _=>True
theorem VR.kJ {φ:Ph} {a:AV} {a':Value} (h:VR φ a a'):Ab.kJ a':=by
 cases h with
 | any _ h=>cases a'<;>first | exact trivial | cases h
 | _=>exact trivial
theorem binOp_eql (t:TypeId) {a b:Value} (h1:∀k m k' m',a= .int k m→b= .int k' m'→False) (h2:∀k m,a= .string k→b= .string m→False) (h3:kJ a) (h4:kJ b):
 binOp .eql t a b=(do pure (.bool (←Op.equal t a b)):Sem Value):=by
 unfold binOp
 split<;>first
  | rfl
  | contradiction
  | (exact (h1 _ _ _ _ rfl rfl).elim)
  | (exact (h2 _ _ rfl rfl).elim)
  | (exact h3.elim)
  | (exact h4.elim)
  | (exfalso;simp_all;done)
theorem binOp_neq (t:TypeId) {a b:Value} (h1:∀k m k' m',a= .int k m→b= .int k' m'→False) (h2:∀k m,a= .string k→b= .string m→False) (h3:kJ a) (h4:kJ b):
 binOp .neq t a b=(do pure (.bool (!(←Op.equal t a b))):Sem Value):=by
 unfold binOp
 split<;>first
  | rfl
  | contradiction
  | (exact (h1 _ _ _ _ rfl rfl).elim)
  | (exact (h2 _ _ rfl rfl).elim)
  | (exact h3.elim)
  | (exact h4.elim)
  | (exfalso;simp_all;done)
set_option linter.unusedSimpArgs false in
theorem PO {φ:Ph} {op:BinOp} {t:TypeId} {xo yo:Operand} {a b v:AV} (h:kr E op t (isConst xo) (isConst yo) a b=some v) {a' b':Value} (hx:VR φ a a') (hy:VR φ b b'):
 ∃v',VR φ v v'∧∀w,(do eqGuard op t xo yo a' b';binOp op t a' b':Sem Value).run E.P w= .ok v' w:=by
 unfold kr at h
 split at h
 ·
  cases hx;cases hy
  split at h
  · simp at h
  · rename_i hn
    simp at h;subst h
    refine ⟨_,.int _ _,fun w=>?_⟩
    rw[Sem.run_bind,uK (by decide) (by decide)]
    exact (DA (E:=E) hn t).1 w
 · cases hx;cases hy
   split at h
   · simp at h
   · rename_i hn
     simp at h;subst h
     refine ⟨_,.int _ _,fun w=>?_⟩
     rw[Sem.run_bind,uK (by decide) (by decide)]
     exact (DA (E:=E) hn t).2 w
 · rename_i k x k' y h1 h2
   cases hx;cases hy
   split at h
   · rename_i hk;subst hk
     obtain ⟨v',hv,hr⟩:=Kb (φ:=φ) (E:=E) h h1 h2 t
     refine ⟨v',hv,fun w=>?_⟩
     rw[Sem.run_bind,mP _ _ _ _ _ rfl]
     exact hr w
   · simp at h
 · cases hx;cases hy
   obtain ⟨v',hv,hr⟩:=Kc (φ:=φ) (E:=E) h t
   refine ⟨v',hv,fun w=>?_⟩
   rw[Sem.run_bind,mP _ _ _ _ _ rfl]
   exact hr w
 ·
  split at h
  · simp at h
  · rename_i hg
    split at h
    · rename_i r hr
      simp at h;subst h
      refine ⟨_,.bool r,fun w=>?_⟩
      obtain ⟨Ay,rfl,CU⟩:=hx.j6
      obtain ⟨xW,rfl,uo⟩:=hy.j6
      rw[Sem.run_bind,zd _ _ _ _ (by simpa using hg)]
      have:=oo 16 9984 t _ _ r _ _ hr hx hy w
      simp only[Result.andThen_ok]
      rw[binOp_eql (a:= .agg Ay) (b:= .agg xW) t (fun _ _ _ _ e=>by simp at e) (fun _ _ e=>by simp at e) trivial trivial,Sem.run_bind]
      rw[show (Op.equal t (.agg Ay) (.agg xW)).run E.P w= .ok r w from this];rfl
    · simp at h
 · split at h
   · simp at h
   · rename_i hg
     split at h
     · rename_i r hr
       simp at h;subst h
       refine ⟨_,.bool (!r),fun w=>?_⟩
       obtain ⟨Ay,rfl,CU⟩:=hx.j6
       obtain ⟨xW,rfl,uo⟩:=hy.j6
       rw[Sem.run_bind,zd _ _ _ _ (by simpa using hg)]
       have:=oo 16 9984 t _ _ r _ _ hr hx hy w
       simp only[Result.andThen_ok]
       rw[binOp_neq (a:= .agg Ay) (b:= .agg xW) t (fun _ _ _ _ e=>by simp at e) (fun _ _ e=>by simp at e) trivial trivial,Sem.run_bind]
       rw[show (Op.equal t (.agg Ay) (.agg xW)).run E.P w= .ok r w from this];rfl
     · simp at h
 · rename_i h1 h2 _
   split at h
   · rename_i hg
     split at h
     · rename_i r hr
       simp at h;subst h
       refine ⟨_,.bool r,fun w=>?_⟩
       rw[Sem.run_bind,mP _ _ _ _ _ (AU hx hy hg)]
       have:=Hu hr hx hy w
       simp only[Result.andThen_ok]
       rw[binOp_eql t (fun k m k' m' e e'=>by subst e;subst e';cases hx<;>cases hy<;>first | exact h1 _ _ _ _ rfl rfl | (simp [pn] at hg;done)) (fun k m e e'=>by subst e;subst e';cases hx<;>cases hy<;>first | exact h2 _ _ rfl rfl | (simp [pn] at hg;done)) (VR.kJ hx) (VR.kJ hy)]
       rw[Sem.run_bind,this];rfl
     · simp at h
   · simp at h
 · rename_i h1 h2 _
   split at h
   · rename_i hg
     split at h
     · rename_i r hr
       simp at h;subst h
       refine ⟨_,.bool (!r),fun w=>?_⟩
       rw[Sem.run_bind,mP _ _ _ _ _ (AU hx hy hg)]
       have:=Hu hr hx hy w
       simp only[Result.andThen_ok]
       rw[binOp_neq t (fun k m k' m' e e'=>by subst e;subst e';cases hx<;>cases hy<;>first | exact h1 _ _ _ _ rfl rfl | (simp [pn] at hg;done)) (fun k m e e'=>by subst e;subst e';cases hx<;>cases hy<;>first | exact h2 _ _ rfl rfl | (simp [pn] at hg;done)) (VR.kJ hx) (VR.kJ hy)]
       rw[Sem.run_bind,this];rfl
     · simp at h
   · simp at h
 · simp at h
end Go.Ab
end
section
namespace Go.Ab
variable {E:Env}
theorem UA {φ:Ph} {op:UnOp} {x v:AV} (h:unA op x=some v) {x':Value} (hx:VR φ x x'):∃v',VR φ v v'∧∀w,(Op.unary op x').run E.P w= .ok v' w:=by
 unfold unA at h
 split at h
 · cases hx;simp at h;subst h;exact ⟨_,.int _ _,fun w=>by simp [Op.unary,Op.intArith]⟩
 · cases hx;simp at h;subst h;exact ⟨_,.int _ _,fun w=>by simp [Op.unary,Op.intBits]⟩
 · cases hx;simp at h;subst h;exact ⟨_,.bool _,fun w=>by simp [Op.unary]⟩
 · simp at h
theorem vl {φ:Ph} {x:AV} {y n:Nat} (h:oe x y=some n) {x':Value} (hx:VR φ x x') {y':Nat} (hy:y≤y') (code:BoundsCode):
 (∀w,(Instr.sliceBound x' y' code).run E.P w= .ok n w)∧n≤y:=by
 unfold oe at h
 split at h
 · split at h
   · rename_i hc
     cases hx
     simp at h;subst h
     refine ⟨fun w=>?_,by omega⟩
     simp only[Instr.sliceBound,asIntOf,Sem.run_bind,Sem.run_pure,Result.andThen_ok]
     rw[if_pos (by omega)];rfl
   · simp at h
 · simp at h
def Ke (φ:Ph):Option AV→Option Value→Prop
 | none,none=>True
 | some x,some y=>VR φ x y
 | _,_=>False
theorem AW (Yh:Bool) (len ye:Nat) (Kf ES CZ:Option Value):Instr.sliceBounds Yh len ye Kf ES CZ=(do
 let m←(match CZ with | some v=>Instr.sliceBound v ye (if Yh then .slice3Acap else .slice3Alen) | none=>pure ye:Sem Nat)
 let h←(match ES,CZ with | some v,some _=>Instr.sliceBound v m .slice3B | some v,none=>Instr.sliceBound v m (if Yh then .sliceAcap else .sliceAlen) | none,none=>pure len | none,some _=>stuck "Slice: max without high" :Sem Nat)
 let l←(match Kf with | some v=>Instr.sliceBound v h (if CZ.isSome then .slice3C else .sliceB) | none=>pure 0:Sem Nat)
 pure (l,h,m)):=by
 unfold Instr.sliceBounds
 cases CZ<;>cases ES<;>cases Kf<;>rfl
theorem pq {φ:Ph} {len cap:Nat} {lo hi mx:Option AV} {l h m:Nat} (e:kV len cap lo hi mx=some (l,h,m)) {Kf ES CZ:Option Value}
 (Uc:Ke φ lo Kf) (Ud:Ke φ hi ES) (UB:Ke φ mx CZ) {ye:Nat} (hc:cap≤ye) (Yh:Bool) (hlen:len≤cap):
 (∀w,(Instr.sliceBounds Yh len ye Kf ES CZ).run E.P w= .ok (l,h,if mx.isNone then ye else m) w)∧l≤h∧h≤m∧m≤cap∧(mx=none→m=cap):=by
 unfold kV at e
 split at e
 · simp at e
 rename_i m0 hm0
 have hm:(∀w,(match CZ with | some v=>Instr.sliceBound v ye (if Yh then .slice3Acap else .slice3Alen) | none=>pure ye:Sem Nat).run E.P w= .ok (if mx.isNone then ye else m0) w)∧m0≤cap∧(mx=none→m0=cap):=by
  cases mx with
  | none=>
    cases CZ with
    | some _=>exact UB.elim
    | none=>simp at hm0;subst hm0;exact ⟨fun w=>rfl,Nat.le_refl _,fun _=>rfl⟩
  | some v=>
    cases CZ with
    | none=>exact UB.elim
    | some v'=>
      have:=fun code=>vl (E:=E) hm0 (show VR φ v v' from UB) hc code
      exact ⟨(this _).1,(this .index).2,fun e=>by simp at e⟩
 split at e
 · simp at e
 rename_i h0 hh0
 have aea:m0≤(if mx.isNone then ye else m0):=by split<;>omega
 have hh:(∀w,(match ES,CZ with | some v,some _=>Instr.sliceBound v (if mx.isNone then ye else m0) .slice3B | some v,none=>Instr.sliceBound v (if mx.isNone then ye else m0) (if Yh then .sliceAcap else .sliceAlen) | none,none=>pure len | none,some _=>stuck "Slice: max without high" :Sem Nat).run E.P w= .ok h0 w)∧h0≤m0:=by
  cases hi with
  | none=>
    cases ES with
    | some _=>exact Ud.elim
    | none=>
      cases mx with
      | some _=>simp at hh0
      | none=>
        cases CZ with
        | some _=>exact UB.elim
        | none=>simp at hh0;subst hh0;exact ⟨fun w=>rfl,by have:=hm.2.2 rfl;omega⟩
  | some v=>
    cases ES with
    | none=>exact Ud.elim
    | some v'=>
      have:=fun code=>vl (E:=E) hh0 (show VR φ v v' from Ud) aea code
      cases CZ with
      | none=>exact ⟨(this _).1,(this .index).2⟩
      | some _=>exact ⟨(this _).1,(this .index).2⟩
 split at e
 · simp at e
 rename_i l0 Yi
 simp at e
 obtain ⟨rfl,rfl,rfl⟩:=e
 have hl:(∀w,(match Kf with | some v=>Instr.sliceBound v h0 (if CZ.isSome then .slice3C else .sliceB) | none=>pure 0:Sem Nat).run E.P w= .ok l0 w)∧l0≤h0:=by
  cases lo with
  | none=>
    cases Kf with
    | some _=>exact Uc.elim
    | none=>simp at Yi;subst Yi;exact ⟨fun w=>rfl,by omega⟩
  | some v=>
    cases Kf with
    | none=>exact Uc.elim
    | some v'=>
      have:=fun code=>vl (E:=E) Yi (show VR φ v v' from Uc) (Nat.le_refl _) code
      exact ⟨(this _).1,(this .index).2⟩
 refine ⟨fun w=>?_,hl.2,hh.2,hm.2.1,hm.2.2⟩
 rw[AW,Sem.run_bind,hm.1 w,Result.andThen_ok,Sem.run_bind,hh.1 w,Result.andThen_ok,Sem.run_bind,hl.1 w]
 rfl
theorem tP (b o n:Nat):(⟨b,o,none⟩:Addr).add n=⟨b,o+n,none⟩:=Addr.add_mid b o n
theorem Kg {φ:Ph} {t:TypeId} {x v:AV} {lo hi mx:Option AV} (e:ij E t x lo hi mx=some v) {x':Value} {Kf ES CZ:Option Value}
 (hx:VR φ x x') (Uc:Ke φ lo Kf) (Ud:Ke φ hi ES) (UB:Ke φ mx CZ):∃v',VR φ v v'∧∀w,(Instr.sliceAt t x' Kf ES CZ).run E.P w= .ok v' w:=by
 unfold ij at e
 split at e
 ·
  rename_i n elem i o hu
  cases hx with
  | @ptr _ l _ hφ=>
  split at e
  · rename_i l0 h0 m0 size hb hs
    simp at e;subst e
    obtain ⟨hr,h1,h2,h3,h4⟩:=pq (E:=E) hb Uc Ud UB (Nat.le_refl n) false (Nat.le_refl n)
    have hm:(if mx.isNone then n else m0)=m0:=by
     cases mx with
     | none=>simp [h4 rfl]
     | some _=>rfl
    rw[hm] at hr
    refine ⟨_,.slice (if m0=l0 then o else o+l0*size) (h0 - l0) (m0 - l0) false hφ,fun w=>?_⟩
    simp only[Instr.sliceAt,Sem.run_bind,run_underlying hu,Result.andThen_ok,Instr.sureAddr,Sem.run_pure,hr w,eE hs,gT,Bool.false_eq_true,if_false]
    by_cases hml:m0=l0
    · simp [hml]
    · simp only[hml,if_false,tP];rw[Nat.add_assoc]
  · simp at e
 ·
  rename_i s hu
  split at e
  · rename_i l0 h0 m0 hb
    simp at e;subst e
    generalize hs:s=s0 at hx hb
    cases hx with
    | str s'=>
    subst hs
    have e1:s'.size=s'.data.toList.length:=by cases s';rfl
    cases CZ with
    | some _=>exact UB.elim
    | none=>
    obtain ⟨hr,h1,h2,h3,h4⟩:=pq (E:=E) (mx:=none) (CZ:=none) hb Uc Ud trivial (Nat.le_refl _) false (Nat.le_refl _)
    refine ⟨.string (s'.extract l0 h0),?_,fun w=>?_⟩
    · have:=VR.str (φ:=φ) (s'.extract l0 h0)
      have e2:(s'.extract l0 h0).data.toList=(s'.data.toList.drop l0).take (h0 - l0):=by
       exact Lib.extract_data s' l0 h0
      rw[e2] at this;exact this
    · have Hv:=hr w
      rw[←e1] at Hv
      simp only[Instr.sliceAt,Instr.slice,Sem.run_bind,run_underlying hu,Result.andThen_ok,Option.isSome_none,Bool.false_eq_true,if_false,Hv,Sem.run_pure]
  · simp at e
 ·
  rename_i elem hu
  cases hx
  split at e
  · rename_i r size hb hs
    simp at e;subst e
    obtain ⟨l0,h0,m0⟩:=r
    obtain ⟨hr,h1,h2,h3,h4⟩:=pq (E:=E) hb Uc Ud UB (Nat.le_refl _) true (Nat.le_refl _)
    have hm:(if mx.isNone then 0 else m0)=0:=by split<;>omega
    rw[hm] at hr
    refine ⟨_,.aK,fun w=>?_⟩
    obtain rfl:l0=0:=by omega
    obtain rfl:h0=0:=by omega
    simp only[Instr.sliceAt,Instr.slice,Sem.run_bind,run_underlying hu,Result.andThen_ok,hr w,eE hs,if_true,Sem.run_pure]
  · simp at e
 · rename_i elem i o len cap op hu
   cases hx with
   | @slice _ l _ _ _ _ hφ=>
   split at e
   · rename_i hlc
     split at e
     · rename_i l0 h0 m0 size hb hs
       have Yj:cap≤gT op cap l.iT:=by unfold gT;split<;>omega
       obtain ⟨hr,h1,h2,h3,h4⟩:=pq (E:=E) hb Uc Ud UB Yj true hlc
       have run:∀w,(Instr.sliceAt t (.slice (some ⟨l.eg,l.off+o,none⟩) len (gT op cap l.iT)) Kf ES CZ).run E.P w=
        .ok (.slice (if (if mx.isNone then gT op cap l.iT else m0)=l0 then some ⟨l.eg,l.off+o,none⟩ else some ⟨l.eg,l.off+o+l0*size,none⟩) (h0 - l0) ((if mx.isNone then gT op cap l.iT else m0) - l0)) w:=fun w=>by
        simp only[Instr.sliceAt,Instr.slice,Sem.run_bind,run_underlying hu,Result.andThen_ok,hr w,eE hs,Sem.run_pure,Option.map_some,tP]
       split at e
       · rename_i hml
         split at e
         · rename_i pY
           have hmn:mx.isNone=true:=by simp at pY;simpa using pY.2
           simp only[Option.some.injEq] at e;subst e
           have e0:h0 - l0=0:=by omega
           rw[e0] at run
           by_cases hq:(if mx.isNone then gT op cap l.iT else m0)=l0
           · exact ⟨_,.ff _ _,fun w=>by rw[run w,if_pos hq]⟩
           · exact ⟨_,.ff _ _,fun w=>by rw[run w,if_neg hq]⟩
         · rename_i pY
           simp at e;subst e
           have hcm:(if mx.isNone then gT op cap l.iT else m0)=m0:=by
            cases hmn:mx with
            | none=>subst hmn;simp at pY;subst pY;simp [gT,h4 rfl]
            | some _=>rfl
           rw[hcm,if_pos hml] at run
           exact ⟨_,.slice o (h0 - l0) (m0 - l0) false hφ,run⟩
       · rename_i hml
         simp only[Option.some.injEq] at e;subst e
         have eM:¬(if mx.isNone then gT op cap l.iT else m0)=l0:=by
          split
          · rename_i hmn;have:=h4 (by simpa using hmn);omega
          · exact hml
         rw[if_neg eM,Nat.add_assoc] at run
         refine ⟨_,?_,run⟩
         have:=VR.slice (φ:=φ) (o+l0*size) (h0 - l0) (m0 - l0) (op&&mx.isNone) hφ
         have e2:gT (op&&mx.isNone) (m0 - l0) l.iT=(if mx.isNone then gT op cap l.iT else m0) - l0:=by
          cases hmn:mx with
          | none=>
            have h5:=h4 hmn
            cases op with
            | true=>simp [gT];omega
            | false=>simp [gT];omega
          | some _=>simp [gT]
         rw[e2] at this;exact this
     · simp at e
   · simp at e
 · simp at e
end Go.Ab
end
section
namespace Go.Ab
variable {E:Env}
theorem qa:∀(l:List Value) (k off:Nat) (C:Array Value),(l.zipIdx k).foldl (fun cs (x:Value×Nat)=>cs.setIfInBounds (off+x.2) x.1) C=ky C (off+k) l
 | [],_,_,_=>rfl
 | v::vs,k,off,C=>by
   rw[List.zipIdx_cons,List.foldl_cons,qa vs (k+1) off,ky,Nat.add_assoc]
theorem LR.setFrom {φ:Ph}:∀{vs:List AV} {qJ:List Value} (_:LR φ vs qJ) {cs:List AV} {C:Array Value} (_:LR φ cs C.toList) (o:Nat),LR φ (Ab.setFrom cs o vs) (ky C o qJ).toList
 | [],qJ,hv,cs,C,hc,o=>by rw[hv.gK];exact hc
 | v::vs,qJ,hv,cs,C,hc,o=>by
   obtain ⟨y,ys,rfl,hy,uo⟩:=hv.cz
   rw[Ab.setFrom,ky]
   refine LR.setFrom uo ?_ (o+1)
   rw[Array.toList_setIfInBounds]
   exact hc.set hy o
def PR (φ:Ph) (ps:List (Nat×AV)) (qs:List (Nat×Value)):Prop:=ps.length=qs.length∧∀(i:Nat) (x:Nat×AV) (y:Nat×Value),ps[i]? =some x→qs[i]? =some y→x.1=y.1∧VR φ x.2 y.2
theorem PR.cz {φ:Ph} {x:Nat×AV} {xs:List (Nat×AV)} {ys:List (Nat×Value)} (h:PR φ (x::xs) ys):∃y xW,ys=y::xW∧(x.1=y.1∧VR φ x.2 y.2)∧PR φ xs xW:=by
 obtain ⟨hl,hv⟩:=h
 cases ys with
 | nil=>simp at hl
 | cons y ys=>exact ⟨y,ys,rfl,hv 0 x y (by simp) (by simp),by simpa using hl,fun i a b ha hb=>hv (i+1) a b (by simpa using ha) (by simpa using hb)⟩
theorem yf {φ:Ph} (hg:GL E φ) {ts:List AV} {a:Act} (ht:LR φ ts a.tmps.toList):∀{l:List (Nat×Operand)} {r:List (Nat×AV)} (_:ks E ts l=some r),PR φ r (l.map fun (i,x)=>(i,a.eval x))
 | [],r,h=>by simp [ks] at h;subst h;exact ⟨rfl,fun i x y hx _=>by simp at hx⟩
 | (i,o)::rest,r,h=>by
   simp only[ks] at h
   cases hv:eu E ts o with
   | none=>simp [hv] at h
   | some v=>
     simp only[hv] at h
     cases hr:ks E ts rest with
     | none=>simp [hr] at h
     | some l=>
       simp only[hr,Option.some.injEq] at h;subst h
       obtain ⟨h1,h2⟩:=yf hg ht hr
       refine ⟨by simpa using h1,fun j x y hx hy=>?_⟩
       cases j with
       | zero=>simp at hx hy;subst hx;subst hy;exact ⟨rfl,nw hg ht hv⟩
       | succ j=>simp at hx;exact h2 j x y hx (by simpa using hy)
theorem tQ {φ:Ph} {place:Nat→Option (Nat×Nat)}:∀{ps:List (Nat×AV)} {qs:List (Nat×Value)} (_:PR φ ps qs) {cs iO:List AV} {C:Array Value} (_:LR φ cs C.toList) (_:rF place cs ps=some iO),
 ∃C',Instr.fill place C qs=some C'∧LR φ iO C'.toList
 | [],qs,hp,cs,iO,C,hc,h=>by
   cases qs with
   | nil=>simp [rF] at h;subst h;exact ⟨C,rfl,hc⟩
   | cons q qs=>simp [PR] at hp
 | (i,v)::rest,qs,hp,cs,iO,C,hc,h=>by
   obtain ⟨⟨j,v'⟩,qs',rfl,⟨he,hv⟩,oq⟩:=hp.cz
   simp only at he hv;subst he
   simp only[rF] at h
   simp only[Instr.fill]
   cases NT:place i with
   | none=>simp [NT] at h
   | some x=>
     obtain ⟨off,size⟩:=x
     simp only[NT] at h ⊢
     split at h
     · rename_i Kh
       have PQ:=hv.cells
       have hl:v'.cells.size=size:=by have:=PQ.1;simp at this;omega
       have O':C.size=cs.length:=by have:=hc.1;simp at this;omega
       have EN:(decide (v'.cells.size≠size)||decide (off+v'.cells.size>C.size))=false:=by
        simp only[Bool.or_eq_false_iff,decide_eq_false_iff_not];omega
       simp only[EN,Bool.false_eq_true,if_false]
       have aa2:(v'.cells.zipIdx.foldl (fun cs (x:Value×Nat)=>cs.setIfInBounds (off+x.2) x.1) C)=ky C off v'.cells.toList:=by
        rw[←Array.foldl_toList]
        have:=qa v'.cells.toList 0 off C
        simpa using this
       rw[aa2]
       exact tQ oq (LR.setFrom PQ hc off) h
     · simp at h
theorem Ki {φ:Ph} {t:TypeId} {ps:List (Nat×AV)} {v:AV} (h:EI E t ps=some v) {qs:Array (Nat×Value)} (hp:PR φ ps qs.toList):
 ∃v',VR φ v v'∧∀w,(Instr.build t qs).run E.P w= .ok v' w:=by
 unfold EI at h
 split at h
 · simp at h
 rename_i z hz
 obtain ⟨z',xX,jE⟩:=iH hz
 split at h
 · rename_i fs hu
   split at h
   · simp at h
   rename_i pl NT
   split at h
   · rename_i cs hf
     simp at h;subst h
     have Yk:∀w,(fs.mapM fun f=>do pure (f.offset,←sizeOf f.type):Sem (Array (Nat×Nat))).run E.P w= .ok pl.toArray w:=by
      intro w
      have key:∀(l:List Field) (r:List (Nat×Nat)),eH (fun f=>match cq E f.type with | some n=>some (f.offset,n) | none=>none) l=some r→
       (l.mapM fun f=>do pure (f.offset,←sizeOf f.type):Sem (List (Nat×Nat))).run E.P w= .ok r w:=by
       intro l
       induction l with
       | nil=>intro r hr;simp [eH] at hr;subst hr;rfl
       | cons f l ih=>
         intro r hr
         simp only[eH] at hr
         cases hs:cq E f.type with
         | none=>simp [hs] at hr
         | some n=>
           simp only[hs] at hr
           cases hm:eH (fun f=>match cq E f.type with | some n=>some (f.offset,n) | none=>none) l with
           | none=>simp [hm] at hr
           | some ys=>
             simp only[hm,Option.some.injEq] at hr;subst hr
             simp only[List.mapM_cons,Sem.run_bind,eE hs,Result.andThen_ok,Sem.run_pure,ih ys hm]
      have:=key fs.toList pl NT
      have hh:(fs.mapM fun f=>do pure (f.offset,←sizeOf f.type):Sem (Array (Nat×Nat)))=(do pure (←(fs.toList.mapM fun f=>do pure (f.offset,←sizeOf f.type):Sem (List (Nat×Nat)))).toArray):=by
       rw[Array.mapM_eq_mapM_toList];rfl
      rw[hh,Sem.run_bind,this];rfl
     obtain ⟨C',ze,AX⟩:=tQ (place:=(pl[·]?)) hp (cs:=z.cells) (C:=z'.cells) (xX φ).cells hf
     refine ⟨.agg C',by have:=VR.NQ AX;simpa using this,fun w=>?_⟩
     simp only[Instr.build,Sem.run_bind,jE,Result.andThen_ok,run_underlying hu,Yk w]
     simp [ze]
   · simp at h
 · rename_i n elem hu
   split at h
   · simp at h
   rename_i n hn
   split at h
   · rename_i cs hf
     simp at h;subst h
     obtain ⟨C',ze,AX⟩:=tQ (place:=fun i=>some (i*n,n)) hp (cs:=z.cells) (C:=z'.cells) (xX φ).cells hf
     refine ⟨.agg C',by have:=VR.NQ AX;simpa using this,fun w=>?_⟩
     simp [Instr.build,Sem.run_bind,jE,run_underlying hu,eE hn,ze]
   · simp at h
 · simp at h
theorem Hw {φ:Ph}:∀{l:List AV} {x v:AV} (_:J9 x l=some v) {x':Value} (_:VR φ x x') {l':List Value} (_:LR φ l l'),∃v',VR φ v v'∧∀w,(l'.foldlM Builtin.max2 x').run E.P w= .ok v' w
 | [],x,v,h,x',hx,l',hl=>by
   rw[hl.gK]
   cases x<;>simp [J9] at h
   subst h;exact ⟨x',hx,fun w=>rfl⟩
 | y::ys,x,v,h,x',hx,l',hl=>by
   obtain ⟨y',xW,rfl,hy,uo⟩:=hl.cz
   cases x<;>(try (simp [J9] at h;done))
   cases y<;>(try (simp [J9] at h;done))
   cases hx;cases hy
   simp only[J9] at h
   obtain ⟨v',hv,hr⟩:=Hw h (.int _ _) uo
   refine ⟨v',hv,fun w=>?_⟩
   simp only[List.foldlM_cons,Builtin.max2,Sem.run_bind,Sem.run_pure,Result.andThen_ok,hr w]
theorem Hx {φ:Ph}:∀{l:List AV} {x v:AV} (_:J_ x l=some v) {x':Value} (_:VR φ x x') {l':List Value} (_:LR φ l l'),∃v',VR φ v v'∧∀w,(l'.foldlM Builtin.min2 x').run E.P w= .ok v' w
 | [],x,v,h,x',hx,l',hl=>by
   rw[hl.gK]
   cases x<;>simp [J_] at h
   subst h;exact ⟨x',hx,fun w=>rfl⟩
 | y::ys,x,v,h,x',hx,l',hl=>by
   obtain ⟨y',xW,rfl,hy,uo⟩:=hl.cz
   cases x<;>(try (simp [J_] at h;done))
   cases y<;>(try (simp [J_] at h;done))
   cases hx;cases hy
   simp only[J_] at h
   obtain ⟨v',hv,hr⟩:=Hx h (.int _ _) uo
   refine ⟨v',hv,fun w=>?_⟩
   simp only[List.foldlM_cons,Builtin.min2,Sem.run_bind,Sem.run_pure,Result.andThen_ok,hr w]
theorem map_toArray (f:Operand→Value) (l:Array Operand):l.map f=(l.toList.map f).toArray:=by apply Array.ext';simp
def W1 (E:Env):Prop:=∀f e,E.mO f=some e→∀vs r,e vs=some r→∀φ (qJ:List Value),LR φ vs qJ→
 ∃r',VR φ r r'∧∀w,(callFunc f qJ.toArray).run E.P w= .ok (.value r') w
theorem fB {s:Sem Value} {v:Value} {P:Program} {w w':World} (h:s.run P w= .ok v w'):(do pure (.value (←s)):Sem Next).run P w= .ok (.value v) w':=by
 rw[Sem.run_bind,h];rfl
theorem ET {φ:Ph} (hg:GL E φ) {ts:List AV} {a:Act} (ht:LR φ ts a.tmps.toList) {o:Option Operand} {r:Option AV} (h:mS E ts o=some r):Ke φ r (o.map a.eval):=by
 cases o with
 | none=>simp [mS] at h;subst h;trivial
 | some o=>
   simp only[mS] at h
   split at h
   · rename_i v hv;simp at h;subst h;exact nw hg ht hv
   · simp at h
theorem sw {P:Program} {t:TypeId} {d:TypeDesc} (hu:P.underlying t=some d) (hd:∀m,d= .interface m→False) (v:Value) (xT:TypeId) (ok:Bool) (w:World):
 (Instr.typeAssert (.iface t v) xT t ok).run P w= .ok (if ok then .tuple #[v,.bool true] else v) w:=by
 rw[Instr.typeAssert,Sem.run_bind,run_underlying hu]
 cases d<;>first | (exact (hd _ rfl).elim) | (simp;done)
theorem Aa {P:Program} {t u:TypeId} {d:TypeDesc} (hu:P.underlying t=some d) (hd:∀m,d= .interface m→False) (v:Value) (xT:TypeId) (eM:u≠t) {z:Value} (w:World) (hz:(zeroValue t).run P w= .ok z w):
 (Instr.typeAssert (.iface u v) xT t true).run P w= .ok (.tuple #[z,.bool false]) w:=by
 rw[Instr.typeAssert,Sem.run_bind,run_underlying hu]
 cases d<;>first | (exact (hd _ rfl).elim) | (simp [eM,hz];done)
theorem AY {P:Program} {t:TypeId} {d:TypeDesc} (hu:P.underlying t=some d) (hd:∀m,d= .interface m→False) (xT:TypeId) {z:Value} (w:World) (hz:(zeroValue t).run P w= .ok z w):
 (Instr.typeAssert .nilIface xT t true).run P w= .ok (.tuple #[z,.bool false]) w:=by
 rw[Instr.typeAssert,Sem.run_bind,run_underlying hu]
 cases d<;>first | (exact (hd _ rfl).elim) | (simp [hz];done)
set_option maxHeartbeats 1000000 in
theorem zf (aa3:W1 E) {φ:Ph} (hg:GL E φ) {ts:List AV} {a:Act} (ht:LR φ ts a.tmps.toList) {o:Oper} {v:AV} (h:bE E ts o.op=some v):
 ∃v',VR φ v v'∧∀w,(execOp a.eval o).run E.P w= .ok (.value v') w:=by
 have ev:∀{x:Operand} {v:AV},eu E ts x=some v→VR φ v (a.eval x):=fun h=>nw hg ht h
 unfold execOp
 generalize o.op=op at h ⊢
 unfold bE at h
 split at h
 · exact ⟨_,ev h,fun w=>rfl⟩
 · exact ⟨_,ev h,fun w=>rfl⟩
 ·
  split at h
  · rename_i hc
    have:=ev hc
    generalize lC:a.eval _=cv at this
    cases this
    exact ⟨_,ev h,fun w=>by simp [lC,asBool]⟩
  · rename_i hc
    have:=ev hc
    generalize lC:a.eval _=cv at this
    cases this
    exact ⟨_,ev h,fun w=>by simp [lC,asBool]⟩
  · simp at h
 ·
  rename_i t parts
  split at h
  · rename_i ps Pa
    have hp:=yf hg ht Pa
    obtain ⟨v',hv,hr⟩:=Ki (φ:=φ) h (qs:=parts.map fun (i,x)=>(i,a.eval x)) (by simpa using hp)
    exact ⟨v',hv,fun w=>fB (hr w)⟩
  · simp at h
 ·
  split at h<;>(try (simp at h;done))
  all_goals
   rename_i hx
   have:=ev hx
   generalize lC:a.eval _=cv at this
   cases this
   simp only[Option.some.injEq] at h;subst h
   first
    | exact ⟨_,.ptr _ ‹_›,fun w=>by simp [lC]⟩
    | exact ⟨_,.map ‹_›,fun w=>by simp [lC]⟩
    | exact ⟨_,.slice _ _ _ _ ‹_›,fun w=>by simp [lC]⟩
    | exact ⟨_,.func _ _ _ _ _ ‹_› ‹_› ‹_› ‹_›,fun w=>by simp [lC]⟩
 ·
  split at h
  · rename_i hx hy
    obtain ⟨v',hv,hr⟩:=PO h (ev hx) (ev hy)
    exact ⟨v',hv,fun w=>fB (hr w)⟩
  · simp at h
 ·
  split at h
  · rename_i hx
    obtain ⟨v',hv,hr⟩:=UA (E:=E) h (ev hx)
    exact ⟨v',hv,fun w=>fB (hr w)⟩
  · simp at h
 ·
  split at h
  · rename_i hs hd hx
    have:=ev hx
    generalize lC:a.eval _=cv at this
    cases this
    simp at h;subst h
    refine ⟨_,.int _ _,fun w=>fB ?_⟩
    simp [lC,convert,run_underlying hs,run_underlying hd,Conv.intToInt]
  · rename_i d s hs hd hx
    have:=ev hx
    generalize lC:a.eval _=cv at this
    simp at h;subst h
    generalize Kj:s=s0 at this
    cases this
    subst Kj
    refine ⟨_,.str _,fun w=>fB ?_⟩
    simp [lC,convert,run_underlying hs,run_underlying hd]
  · rename_i d k n hs hd hx
    have:=ev hx
    generalize lC:a.eval _=cv at this
    cases this
    unfold L9 at h
    split at h
    · rename_i h0
      simp at h;subst h
      have he:Utf8.encode n=⟨#[UInt8.ofNat n.toNat]⟩:=by
       have hv:Utf8.valid n=true:=by simp [Utf8.valid];omega
       have h1:n.toNat<0x80:=by omega
       simp [Utf8.encode,hv,h1]
      refine ⟨.string ⟨#[UInt8.ofNat n.toNat]⟩,.str ⟨#[UInt8.ofNat n.toNat]⟩,fun w=>fB ?_⟩
      rw[←he]
      cases d<;>simp [lC,convert,run_underlying hs,run_underlying hd,Conv.intToString]
    · simp at h
  · simp at h
 ·
  split at h
  · simp at h
  · rename_i d v0 hn hu hx
    simp at h;subst h
    refine ⟨_,.iface _ _ _ (ev hx),fun w=>fB ?_⟩
    rw[Instr.makeInterface,Sem.run_bind,run_underlying hu]
    cases d<;>first | (exact (hn _ rfl).elim) | rfl
  · simp at h
 ·
  rename_i f first captured
  split at h
  · rename_i ha hb
    simp at h;subst h
    have h1:=iG hg ht ha
    have h2:=iG hg ht hb
    refine ⟨.func (.func f) (first.map a.eval) (captured.map a.eval),?_,fun w=>fB rfl⟩
    rw[map_toArray,map_toArray]
    exact VR.PG f h1 h2
  · simp at h
 ·
  split at h
  · rename_i hx hl hh hm
    obtain ⟨v',hv,hr⟩:=Kg h (ev hx) (ET hg ht hl) (ET hg ht hh) (ET hg ht hm)
    exact ⟨v',hv,fun w=>fB (hr w)⟩
  · simp at h
 ·
  split at h
  · rename_i fd i o0 hf hx
    split at h
    · rename_i n hn
      split at h
      · simp at h
      · rename_i Pb
        simp at h;subst h
        have:=ev hx
        generalize lC:a.eval _=cv at this
        cases this with
        | @ptr _ l _ hφ=>
        refine ⟨_,.ptr _ hφ,fun w=>fB ?_⟩
        unfold mT at hf
        split at hf
        · rename_i fs hu
          simp [lC,Instr.fieldAt,run_underlying hu,hf,Instr.sureAddr,fieldPlace,eE hn,Pb,tP,Nat.add_assoc]
        · simp at hf
    · simp at h
  · simp at h
 ·
  split at h
  · rename_i fd cs hf hx
    have:=ev hx
    generalize lC:a.eval _=cv at this
    obtain ⟨iO,rfl,AX⟩:=this.j6
    obtain ⟨v',hv,hr⟩:=n_ AX h
    refine ⟨v',hv,fun w=>fB ?_⟩
    unfold mT at hf
    split at hf
    · rename_i fs hu
      have:=hr w
      simp [lC,Instr.field,run_underlying hu,hf,asAgg] at this ⊢
      exact this
    · simp at hf
  · simp at h
 ·
  split at h
  · rename_i len elem i o0 k n hu hx hi
    split at h
    · rename_i size hs
      split at h
      · rename_i hb
        simp at h;subst h
        have h1:=ev hx
        have h2:=ev hi
        generalize lC:a.eval _=cv at h1
        generalize Ym:a.eval _=cw at h2
        cases h1 with
        | @ptr _ l _ hφ=>
        cases h2
        refine ⟨_,.ptr _ hφ,fun w=>fB ?_⟩
        simp [lC,Ym,Instr.indexAt,asIntOf,run_underlying hu,Instr.sureAddr,hb,eE hs,tP,Nat.add_assoc]
      · simp at h
    · simp at h
  · rename_i elem i o0 len cap op k n hu hx hi
    split at h
    · rename_i size hs
      split at h
      · rename_i hb
        simp at h;subst h
        have h1:=ev hx
        have h2:=ev hi
        generalize lC:a.eval _=cv at h1
        generalize Ym:a.eval _=cw at h2
        cases h1 with
        | @slice _ l _ _ _ _ hφ=>
        cases h2
        refine ⟨_,.ptr _ hφ,fun w=>fB ?_⟩
        simp [lC,Ym,Instr.indexAt,asIntOf,run_underlying hu,hb,eE hs,tP,Nat.add_assoc]
      · simp at h
    · simp at h
  · simp at h
 ·
  split at h
  · rename_i len elem cs k n hu hx hi
    split at h
    · rename_i size hs
      split at h
      · rename_i hb
        have h1:=ev hx
        have h2:=ev hi
        generalize lC:a.eval _=cv at h1
        generalize Ym:a.eval _=cw at h2
        obtain ⟨iO,rfl,AX⟩:=h1.j6
        cases h2
        obtain ⟨v',hv,hr⟩:=n_ AX h
        refine ⟨v',hv,fun w=>fB ?_⟩
        have:=hr w
        simp [lC,Ym,Instr.index,asIntOf,run_underlying hu,hb,eE hs] at this ⊢
        exact this
      · simp at h
    · simp at h
  · rename_i s k n hu hx hi
    split at h
    · rename_i hn
      split at h
      · rename_i b hb
        simp at h;subst h
        have h1:=ev hx
        have h2:=ev hi
        generalize lC:a.eval _=cv at h1
        generalize Ym:a.eval _=cw at h2
        generalize Kj:s=s0 at h1
        cases h1 with
        | str s'=>
        subst Kj
        cases h2
        refine ⟨_,.int _ _,fun w=>fB ?_⟩
        have Ue:s'[n.toNat]? =some b:=by
         have:s'.data[n.toNat]? =some b:=by simpa using hb
         rw[←this];rfl
        simp [lC,Ym,Instr.index,asIntOf,run_underlying hu,hn,Ue]
      · simp at h
    · simp at h
  · simp at h
 ·
  split at h
  · rename_i vs hx
    have h1:=ev hx
    generalize lC:a.eval _=cv at h1
    obtain ⟨qJ,rfl,AX⟩:=h1.Dx
    obtain ⟨y,hy,hv⟩:=AX.get h
    refine ⟨y,hv,fun w=>fB ?_⟩
    simp at hy
    simp [lC,Instr.extract,hy]
  · simp at h
 ·
  split at h
  · simp at h
  · rename_i d t v0 hn hu hx
    have h1:=ev hx
    generalize lC:a.eval _=cv at h1
    cases h1 with
    | iface _ _ v1 hv1=>
    split at h
    · rename_i hta
      subst hta
      simp at h;subst h
      split
      · rename_i kH
        refine ⟨.tuple #[v1,.bool true],VR.tuple' (iO:=[v1,.bool true]) (.cons hv1 (.cons (.bool true) (.nil φ))),fun w=>fB ?_⟩
        rw[lC,sw hu hn,kH];rfl
      · rename_i kH
        refine ⟨v1,hv1,fun w=>fB ?_⟩
        rw[lC,sw hu hn];simp [kH]
    · rename_i hta
      split at h
      · rename_i kH
        split at h
        · rename_i z hz
          simp at h;subst h
          obtain ⟨z',xX,jE⟩:=iH hz
          refine ⟨.tuple #[z',.bool false],VR.tuple' (iO:=[z',.bool false]) (.cons (xX φ) (.cons (.bool false) (.nil φ))),fun w=>fB ?_⟩
          rw[lC,kH];exact Aa hu hn _ _ hta w (jE w)
        · simp at h
      · simp at h
  · rename_i d hn hu hx
    have h1:=ev hx
    generalize lC:a.eval _=cv at h1
    cases h1
    split at h
    · rename_i kH
      split at h
      · rename_i z hz
        simp at h;subst h
        obtain ⟨z',xX,jE⟩:=iH hz
        refine ⟨.tuple #[z',.bool false],VR.tuple' (iO:=[z',.bool false]) (.cons (xX φ) (.cons (.bool false) (.nil φ))),fun w=>fB ?_⟩
        rw[lC,kH];exact AY hu hn _ w (jE w)
      · simp at h
    · simp at h
  · simp at h
 ·
  split at h
  · rename_i t v0 Pc Hy
    have hl:=iG hg ht Hy
    obtain ⟨y,ys,uo,hy,EU⟩:=hl.cz
    rw[EU.gK] at uo
    have AZ:∀(args:Array Operand),args.toList.map a.eval=[y]→args.map a.eval= #[y]:=fun args e=>by rw[map_toArray,e]
    have h0:=AZ _ uo
    split at h<;>(try (simp at h;done))
    all_goals
     rename_i hu
     simp only[Option.some.injEq] at h;subst h
    · generalize Kj:AV.str _=s0 at hy
      cases hy<;>cases Kj
      rename_i s'
      refine ⟨_,.int _ _,fun w=>?_⟩
      simp [resolve,invoke,builtin,h0,Builtin.len_,Pc,run_underlying hu,goInt]
      try rfl
    · refine ⟨_,.int _ _,fun w=>?_⟩
      simp [resolve,invoke,builtin,h0,Builtin.len_,Pc,run_underlying hu,goInt]
    · cases hy
      refine ⟨_,.int _ _,fun w=>?_⟩
      simp [resolve,invoke,builtin,h0,Builtin.len_,Pc,run_underlying hu,goInt]
    · cases hy
      refine ⟨_,.int _ _,fun w=>?_⟩
      simp [resolve,invoke,builtin,h0,Builtin.len_,Pc,run_underlying hu,goInt]
    · cases hy
      refine ⟨_,.int _ _,fun w=>?_⟩
      simp [resolve,invoke,builtin,h0,Builtin.len_,Pc,run_underlying hu,goInt]
    · cases hy
      refine ⟨_,.int _ _,fun w=>?_⟩
      simp [resolve,invoke,builtin,h0,Builtin.len_,Pc,run_underlying hu,goInt]
  · simp at h
 ·
  split at h
  · rename_i t v0 Pc Hy
    have hl:=iG hg ht Hy
    obtain ⟨y,ys,uo,hy,EU⟩:=hl.cz
    rw[EU.gK] at uo
    have AZ:∀(args:Array Operand),args.toList.map a.eval=[y]→args.map a.eval= #[y]:=fun args e=>by rw[map_toArray,e]
    have h0:=AZ _ uo
    split at h<;>(try (simp at h;done))
    all_goals
     rename_i hu
     simp only[Option.some.injEq] at h;subst h
    · refine ⟨_,.int _ _,fun w=>?_⟩
      simp [resolve,invoke,builtin,h0,Builtin.cap_,Pc,run_underlying hu,goInt]
    · cases hy
      refine ⟨_,.int _ _,fun w=>?_⟩
      simp [resolve,invoke,builtin,h0,Builtin.cap_,Pc,run_underlying hu,goInt]
    · cases hy
      refine ⟨_,.int _ _,fun w=>?_⟩
      simp [resolve,invoke,builtin,h0,Builtin.cap_,Pc,run_underlying hu,goInt,gT]
  · simp at h
 ·
  rename_i args _
  split at h
  · rename_i x rest Hy
    have hl:=iG hg ht Hy
    obtain ⟨y,ys,uo,hy,oq⟩:=hl.cz
    obtain ⟨v',hv,hr⟩:=Hw (E:=E) h hy oq
    refine ⟨v',hv,fun w=>?_⟩
    have h0:args.map a.eval=(y::ys).toArray:=by rw[map_toArray,uo]
    have:=hr w
    simp [resolve,invoke,builtin,h0,Builtin.max_,this]
  · simp at h
 ·
  rename_i args _
  split at h
  · rename_i x rest Hy
    have hl:=iG hg ht Hy
    obtain ⟨y,ys,uo,hy,oq⟩:=hl.cz
    obtain ⟨v',hv,hr⟩:=Hx (E:=E) h hy oq
    refine ⟨v',hv,fun w=>?_⟩
    have h0:args.map a.eval=(y::ys).toArray:=by rw[map_toArray,uo]
    have:=hr w
    simp [resolve,invoke,builtin,h0,Builtin.min_,this]
  · simp at h
 ·
  rename_i f args _
  split at h
  · rename_i e vs he Hy
    have hl:=iG hg ht Hy
    obtain ⟨r',hr,gv⟩:=aa3 f e he vs v h φ _ hl
    refine ⟨r',hr,fun w=>?_⟩
    have:=gv w
    rw[←map_toArray] at this
    simpa [resolve,Deferred.ofValue,invoke,Act.eval] using this
  · simp at h
 · simp at h
end Go.Ab
end
section
namespace Go.Ab
variable {E:Env}
theorem EV {P:Program} {t:TypeId} {k:IntKind} (hu:P.underlying t=some (.int k)) (b:Bool) (n:Nat) (v:Value) (w:World):
 (Instr.checkKey b (n+1) t v).run P w= .ok () w:=by
 unfold Instr.checkKey
 rw[Sem.run_bind,run_underlying hu]
 rfl
theorem EW {P:Program} {t:TypeId} (hu:P.underlying t=some .string) (b:Bool) (n:Nat) (v:Value) (w:World):
 (Instr.checkKey b (n+1) t v).run P w= .ok () w:=by
 unfold Instr.checkKey
 rw[Sem.run_bind,run_underlying hu]
 rfl
theorem pr {φ:Ph} {t:TypeId} {d:TypeDesc} {k:AV} (hu:E.P.underlying t=some d) (hk:j0 E (some d) k=true) {k':Value} (h:VR φ k k') (b:Bool) (n:Nat) (w:World):
 (Instr.checkKey b (n+2) t k').run E.P w= .ok () w:=by
 unfold j0 at hk
 split at hk
 · rename_i fs xs hd
   cases hd
   obtain ⟨Ay,rfl,CU⟩:=h.j6
   unfold Instr.checkKey
   rw[Sem.run_bind,run_underlying hu]
   simp only[Result.andThen_ok]
   have key:∀l:List Field,(l.all fun f=>match E.P.underlying f.type,iB E f.type xs f.offset with
    | some (.int _),some (.int _ _)=>true
    | some .string,some (.str _)=>true
    | _,_=>false)=true→
    (forIn (m:=Sem) l PUnit.unit fun f (_:PUnit)=>if f.name≠ "_" then (do let x←part f.type Ay f.offset;Instr.checkKey b (n+1) f.type x;pure (ForInStep.yield PUnit.unit)) else pure (ForInStep.yield PUnit.unit)).run E.P w= .ok PUnit.unit w:=by
    intro l
    induction l with
    | nil=>intro _;rfl
    | cons f l ih=>
      intro ha
      rw[List.all_cons,Bool.and_eq_true] at ha
      obtain ⟨hf,hl⟩:=ha
      have h2:=ih hl
      split at hf
      · rename_i ki kj z e1 e2
        obtain ⟨v',_,hr⟩:=n_ CU e2
        rw[Array.toArray_toList] at hr
        simp only[List.forIn_cons,Sem.run_bind]
        split
        · simp only[Sem.run_bind,hr,Result.andThen_ok,EV e1,Sem.run_pure,h2]
        · simp only[Sem.run_pure,Result.andThen_ok,h2]
      · rename_i z e1 e2
        obtain ⟨v',_,hr⟩:=n_ CU e2
        rw[Array.toArray_toList] at hr
        simp only[List.forIn_cons,Sem.run_bind]
        split
        · simp only[Sem.run_bind,hr,Result.andThen_ok,EW e1,Sem.run_pure,h2]
        · simp only[Sem.run_pure,Result.andThen_ok,h2]
      · cases hf
   have:=key fs.toList hk
   rw[Array.forIn_toList] at this
   first | exact this | (simp only[Sem.run_bind,this];rfl)
 · cases hk
theorem yg {φ:Ph}:∀{xs ys:List AV} {Ay xW:List Value},og xs ys=true→LR φ xs Ay→LR φ ys xW→xW=Ay∧(xW.zip Ay).all (fun (x,y)=>Instr.sameBits 9999 x y)=true
 | [],[],Ay,xW,_,h,h'=>by rw[h.gK,h'.gK];exact ⟨rfl,rfl⟩
 | .int k a::xs,.int j b::ys,Ay,xW,e,h,h'=>by
   obtain ⟨x,xs2,rfl,hx,CU⟩:=h.cz
   obtain ⟨y,ys2,rfl,hy,uo⟩:=h'.cz
   simp only[og,Bool.and_eq_true,decide_eq_true_eq] at e
   obtain ⟨⟨rfl,rfl⟩,e⟩:=e
   cases hx;cases hy
   obtain ⟨h1,h2⟩:=yg e CU uo
   subst h1
   refine ⟨rfl,?_⟩
   rw[List.zip_cons_cons,List.all_cons,h2,Bool.and_true]
   simp [Instr.sameBits]
 | .str a::xs,.str b::ys,Ay,xW,e,h,h'=>by
   obtain ⟨x,xs2,rfl,hx,CU⟩:=h.cz
   obtain ⟨y,ys2,rfl,hy,uo⟩:=h'.cz
   simp only[og,Bool.and_eq_true,beq_iff_eq] at e
   obtain ⟨rfl,e⟩:=e
   obtain ⟨h1,h2⟩:=yg e CU uo
   subst h1
   generalize hq:AV.str a=q at hx hy
   have hxy:y=x:=by
    cases hx with
    | str s1=>
      generalize hr:AV.str s1.data.toList=r at hy
      cases hy with
      | str s2=>
        injection hr with hr
        have:s1.data=s2.data:=Array.toList_inj.1 hr
        cases s1;cases s2;cases this;rfl
      | _=>cases hr
    | _=>cases hq
   subst hxy
   refine ⟨rfl,?_⟩
   rw[List.zip_cons_cons,List.all_cons,h2,Bool.and_true]
   cases hx with
   | str s1=>
     show (s1==s1)=true
     cases s1 with
     | mk d=>show (d==d)=true;simp
   | _=>cases hq
theorem EX {φ:Ph} {xs ys:List AV} (e:og xs ys=true) {k' j':Value} (h:VR φ (.agg xs) k') (h':VR φ (.agg ys) j'):Instr.sameBits 10000 j' k'=true∧j'=k':=by
 obtain ⟨a,rfl,ha⟩:=h.j6
 obtain ⟨b,rfl,hb⟩:=h'.j6
 obtain ⟨h1,h2⟩:=yg e ha hb
 have hab:b=a:=by cases b;cases a;simp at h1;subst h1;rfl
 subst hab
 refine ⟨?_,rfl⟩
 rw[Instr.sameBits]
 simp only[beq_self_eq_true,Bool.true_and]
 exact h2
def UC (φ:Ph) (k j:AV):Prop:=∀{k' j':Value},VR φ k k'→VR φ j j'→Instr.sameBits 10000 j' k'=true∧j'=k'
theorem mE {φ:Ph} {key:TypeId} {k:AV} {k':Value} (h:VR φ k k'):∀{es:List ig} {gL:List MapEntry} (_:Hr φ es gL) {i:Nat} {r:Option (Nat×AV)} (_:findD E key k es i=some r),
 ∃r',(∀w,(Instr.findAsking key k' gL i).run E.P w= .ok r' w)∧(match r,r' with | none,none=>True | some (j,v),some (j',v')=>j=j'∧VR φ v v'∧i≤j∧∃e,es[j - i]? =some e∧UC φ k e.key | _,_=>False)
 | [],gL,he,i,r,e=>by
   cases gL with
   | nil=>simp [findD] at e;subst e;exact ⟨none,fun w=>rfl,trivial⟩
   | cons _ _=>simp [Hr] at he
 | x::es,gL,he,i,r,e=>by
   obtain ⟨hl,hv⟩:=he
   cases gL with
   | nil=>simp at hl
   | cons y ys=>
     have hx:=hv 0 x y (by simp) (by simp)
     simp only[findD] at e
     split at e
     · rename_i heq
       split at e
       · rename_i zs hz _
         split at e
         · rename_i hs
           simp at e;subst e
           refine ⟨some (i,y.val),fun w=>?_,rfl,hx.val,Nat.le_refl _,x,by simp,?_⟩
           · have q:=oo 16 9984 key _ _ true _ _ heq h hx.key w
             simp only[Instr.findAsking,Sem.run_bind,Op.equal]
             rw[show Op.maxDepth=9984+16 from rfl,q]
             rfl
           · intro a b ha hb
             rw[hz] at hb
             exact EX hs ha hb
         · cases e
       · cases e
     · rename_i heq
       obtain ⟨r',h1,h2⟩:=mE h (es:=es) (gL:=ys) ⟨by simpa using hl,fun i a b p q=>hv (i+1) a b (by simpa using p) (by simpa using q)⟩ e
       refine ⟨r',fun w=>?_,?_⟩
       · have q:=oo 16 9984 key _ _ false _ _ heq h hx.key w
         simp only[Instr.findAsking,Sem.run_bind,Op.equal]
         rw[show Op.maxDepth=9984+16 from rfl,q]
         exact h1 w
       · cases r with
         | none=>cases r' with
           | none=>trivial
           | some _=>exact h2
         | some p=>
           obtain ⟨j,v⟩:=p
           cases r' with
           | none=>exact h2
           | some q=>
             obtain ⟨j',v'⟩:=q
             obtain ⟨h3,h4,h5,e',h6,h7⟩:=h2
             refine ⟨h3,h4,by omega,e',?_,h7⟩
             rw[show j - i=(j -(i+1))+1 by omega];simpa using h6
     · cases e
theorem j7 {φ:Ph} {key:TypeId} {d:TypeDesc} {k:AV} (hd:E.P.underlying key=some d) (hk:j0 E (some d) k=true) {k':Value} (h:VR φ k k') {gL:List MapEntry} {r':Option (Nat×Value)} {w:World} (hr:(Instr.findAsking key k' gL 0).run E.P w= .ok r' w):
 (Instr.findKey key k' gL).run E.P w= .ok r' w:=by
 unfold j0 at hk
 split at hk
 · rename_i fs xs hdd
   cases hdd
   obtain ⟨Ay,rfl,CU⟩:=h.j6
   rw[Instr.findKey,Sem.run_bind,run_underlying hd]
   simp only[Result.andThen_ok]
   cases gL with
   | nil=>exact hr
   | cons y ys=>
     have:Instr.findNow (.struct fs) (.agg Ay) (y::ys) 0=none:=rfl
     rw[this]
     exact hr
 · cases hk
end Go.Ab
end
section
namespace Go.Ab
variable {E:Env}
theorem OK.cells {φ:Ph} {h:aw} {w:World} (ok:OK E φ h w) {i:Nat} {cs:List AV} {e:TypeId} {ro:Bool} (hg:h.get i=some (.cells cs e ro)) {l:Loc} (hl:φ i=some l):
 ∃C e' lo hi,w.heap[l.eg]? =some (.cells C e' (lo,hi))∧CS E φ cs e ro l C e' lo hi:=by
 exact ok.live i _ l hg hl
theorem DB {φ:Ph} {h:aw} {w:World} (ok:OK E φ h w) {t:TypeId} {av v:AV} {v':Value} (hv:VR φ av v') (e:bA E h t av=some v):
 ∃x',VR φ v x'∧∀w',w'.heap=w.heap→(Instr.loadAt t v').run E.P w'= .ok x' w':=by
 unfold bA at e
 split at e
 · rename_i i o
   cases hv with
   | @ptr _ l _ hφ=>
   split at e
   · rename_i cs el ro hg
     obtain ⟨C,e',lo,hi,hb,hc⟩:=ok.cells hg hφ
     unfold iB at e
     split at e
     · rename_i ha
       split at e
       · rename_i n hn
         split at e
         · rename_i hle
           simp at e;subst e
           obtain ⟨vs,hvl,C1,AX⟩:=hc.range o n hle
           refine ⟨.agg vs.toArray,VR.NQ AX,fun w' hw'=>?_⟩
           rw[←hw'] at hb
           have A0:=nM (P:=E.P) hb (l.off+o) vs C1
           rw[hvl] at A0
           simp only[Instr.loadAt,Instr.sureAddr,Sem.run_bind,Sem.run_pure,Result.andThen_ok,loadVar,qH ha,if_true,eE hn,A0]
         · simp at e
       · simp at e
     · rename_i ha
       obtain ⟨y,hy,hr⟩:=hc.val o v e
       refine ⟨y,hr,fun w' hw'=>?_⟩
       rw[←hw'] at hb
       simp only[Instr.loadAt,Instr.sureAddr,Sem.run_bind,Sem.run_pure,Result.andThen_ok,loadVar,qH ha,Bool.false_eq_true,if_false,run_load,cell_of_heap hb,hy]
     · simp at e
   · simp at e
 · simp at e
theorem Hz {P:Program} (l:List Int):∀(vs:List Value) (acc:ByteArray) (w:World),vs=l.map (fun n=>Value.int .u8 n)→
 (forIn vs acc (fun c s=>(match c with | .int .u8 n=>do pure (ForInStep.yield (s.push (UInt8.ofNat n.toNat))) | _=>do stuck "bytesToString: byte expected";pure (ForInStep.yield s):Sem (ForInStep ByteArray)))).run P w= .ok ⟨(acc.data.toList++l.map (fun n=>UInt8.ofNat n.toNat)).toArray⟩ w:=by
 induction l with
 | nil=>intro vs acc w h;simp at h;subst h;simp [List.forIn_nil]
 | cons b l ih=>
   intro vs acc w h
   cases vs with
   | nil=>simp at h
   | cons v vs=>
     simp at h
     obtain ⟨rfl,Hy⟩:=h
     simp only[List.forIn_cons,Sem.run_bind,Sem.run_pure,Result.andThen_ok]
     rw[ih vs _ w Hy]
     simp [ByteArray.push]
theorem DC {φ:Ph} {d:TypeDesc} {k j:AV} {r:Bool} (hk:iY (some d) k=true) (e:Du k j=some r) {k' j':Value} (h:VR φ k k') (h':VR φ j j'):Instr.sameNow d k' j'=some r:=by
 unfold Du at e
 split at e
 · generalize hs:AV.str _=s at h
   generalize qI:AV.str _=s' at h'
   cases h<;>cases hs
   cases h'<;>cases qI
   simp at e;subst e
   cases d<;>simp [iY] at hk
   rename_i s s'
   simp only[Instr.sameNow]
   congr 1
 · cases h;cases h'
   split at e
   · rename_i xY
     simp at e;subst e;subst xY
     cases d<;>simp [iY] at hk
     simp [Instr.sameNow]
   · simp at e
 · cases h;cases h'
   simp at e;subst e
   cases d<;>simp [iY] at hk
   simp [Instr.sameNow]
 · simp at e
theorem qb {φ:Ph} {d:TypeDesc} {k:AV} {k':Value} (hk:iY (some d) k=true) (h:VR φ k k'):∀{es:List ig} {gL:List MapEntry} (_:Hr φ es gL) {i:Nat} {r:Option (Nat×AV)} (_:sf k es i=some r),
 ∃r',Instr.findNow d k' gL i=some r'∧(match r,r' with | none,none=>True | some (j,v),some (j',v')=>j=j'∧VR φ v v'∧i≤j∧∃e,es[j - i]? =some e∧Du k e.key=some true | _,_=>False)
 | [],gL,he,i,r,e=>by
   cases gL with
   | nil=>simp [sf] at e;subst e;exact ⟨none,rfl,trivial⟩
   | cons _ _=>simp [Hr] at he
 | x::es,gL,he,i,r,e=>by
   obtain ⟨hl,hv⟩:=he
   cases gL with
   | nil=>simp at hl
   | cons y ys=>
     have hx:=hv 0 x y (by simp) (by simp)
     simp only[sf] at e
     split at e
     · rename_i heq
       simp at e;subst e
       refine ⟨some (i,y.val),?_,rfl,hx.val,Nat.le_refl _,x,by simp,heq⟩
       simp [Instr.findNow,DC hk heq h hx.key]
     · rename_i heq
       obtain ⟨r',h1,h2⟩:=qb hk h (es:=es) (gL:=ys) ⟨by simpa using hl,fun i a b p q=>hv (i+1) a b (by simpa using p) (by simpa using q)⟩ e
       refine ⟨r',?_,?_⟩
       · simp [Instr.findNow,DC hk heq h hx.key,h1]
       · cases r with
         | none=>cases r' with
           | none=>trivial
           | some _=>exact h2
         | some p=>
           obtain ⟨j,v⟩:=p
           cases r' with
           | none=>exact h2
           | some q=>
             obtain ⟨j',v'⟩:=q
             obtain ⟨h3,h4,h5,e',h6,h7⟩:=h2
             refine ⟨h3,h4,by omega,e',?_,h7⟩
             rw[show j - i=(j -(i+1))+1 by omega];simpa using h6
     · simp at e
theorem qK {P:Program} {t:TypeId} {d:TypeDesc} (hu:P.underlying t=some d) {k:AV} (hk:iY (some d) k=true) {φ:Ph} {k':Value} (h:VR φ k k') (b:Bool) (n:Nat) (w:World):
 (Instr.checkKey b (n+1) t k').run P w= .ok () w:=by
 unfold Instr.checkKey
 rw[Sem.run_bind,run_underlying hu]
 cases d<;>simp [iY] at hk<;>cases h<;>first | rfl | (simp [iY] at hk)
theorem wc {P:Program} {w:World} {a:Addr} {n:Nat} (l:List Int) (hl:(loadCells a n).run P w= .ok ((l.map (fun n=>Value.int .u8 n)).toArray) w) (c:Nat):
 (Conv.bytesToString (.slice (some a) n c)).run P w= .ok (.string ⟨(l.map (fun n=>UInt8.ofNat n.toNat)).toArray⟩) w:=by
 unfold Conv.bytesToString
 simp only[Sem.run_bind,hl,Result.andThen_ok]
 have:=Hz (P:=P) l (l.map (fun n=>Value.int .u8 n)) ByteArray.empty w rfl
 have e:forIn (m:=Sem) (l.map (fun n=>Value.int .u8 n)).toArray ByteArray.empty (fun c s=>(match c with | .int .u8 n=>do pure (ForInStep.yield (s.push (UInt8.ofNat n.toNat))) | _=>do stuck "bytesToString: byte expected";pure (ForInStep.yield s):Sem (ForInStep ByteArray)))
  =forIn (m:=Sem) (l.map (fun n=>Value.int .u8 n)) ByteArray.empty (fun c s=>(match c with | .int .u8 n=>do pure (ForInStep.yield (s.push (UInt8.ofNat n.toNat))) | _=>do stuck "bytesToString: byte expected";pure (ForInStep.yield s):Sem (ForInStep ByteArray))):=by
  rw[←Array.forIn_toList]
 rw[←e] at this
 refine (congrArg (fun r=>Result.andThen r fun a w'=>Sem.run P (pure (Value.string a)) w') this).trans ?_
 simp
theorem zg {φ:Ph}:∀{cs:List AV} {vs:List Value} (_:LR φ cs vs) {l:List UInt8} (_:eH (fun | .int .u8 b=>some (UInt8.ofNat b.toNat) | _=>none) cs=some l),
 ∃ns:List Int,vs=ns.map (fun n=>Value.int .u8 n)∧l=ns.map (fun n=>UInt8.ofNat n.toNat)
 | [],vs,hv,l,h=>by rw[hv.gK];simp [eH] at h;subst h;exact ⟨[],rfl,rfl⟩
 | c::cs,vs,hv,l,h=>by
   obtain ⟨y,ys,rfl,hy,uo⟩:=hv.cz
   simp only[eH] at h
   split at h
   · simp at h
   · rename_i b hb
     split at h
     · simp at h
     · rename_i bs hbs
       simp at h;subst h
       obtain ⟨ns,rfl,rfl⟩:=zg uo hbs
       split at hb
       · cases hy
         simp at hb;subst hb
         exact ⟨_::ns,rfl,rfl⟩
       · simp at hb
structure Entries (P:Program) (x:Value) (es:Array MapEntry) (w:World):Prop where
 is:(x= .map none∧es= #[])∨∃r clock,x= .map (some r)∧w.heap[r]? =some (.map es clock)
theorem A1 {P:Program} {t key elem:TypeId} (hu:P.underlying t=some (.map key elem)) {x k:Value} {es:Array MapEntry} {w:World} (yh:Entries P x es w)
 {d:TypeDesc} (hd:P.underlying key=some d) (EY:∀b n,(Instr.checkKey b (n+1) key k).run P w= .ok () w) {r:Option (Nat×Value)} (hf:Instr.findNow d k es.toList 0=some r) {z:Value} (hz:r=none→(zeroValue elem).run P w= .ok z w) (ok:Bool):
 (Instr.lookup t x k ok).run P w= .ok (match r with | some (_,v)=>if ok then .tuple #[v,.bool true] else v | none=>if ok then .tuple #[z,.bool false] else z) w:=by
 have NU:=fun b=>EY b 9999
 rw[Instr.lookup]
 simp only[Sem.run_bind,run_underlying hu,Result.andThen_ok]
 rcases yh.is with ⟨rfl,rfl⟩ | ⟨b,clock,rfl,hb⟩
 · simp only[Sem.run_bind,Sem.run_pure,Result.andThen_ok,NU,Instr.findKey,run_underlying hd,hf]
   cases r with
   | none=>simp [hz rfl]
   | some q=>simp
 · have zh:(getObj b).run P w= .ok (.map es clock) w:=by simp [getObj,Sem.run,hb]
   simp only[Sem.run_bind,Sem.run_pure,Result.andThen_ok,zh,NU,Instr.findKey,run_underlying hd,hf]
   cases r with
   | none=>simp [hz rfl]
   | some q=>simp
theorem zi {P:Program} {t key elem:TypeId} (hu:P.underlying t=some (.map key elem)) {x k:Value} {es:Array MapEntry} {w:World} (yh:Entries P x es w)
 (EY:∀b,(Instr.checkKey b 10000 key k).run P w= .ok () w) {r:Option (Nat×Value)} (hf:(Instr.findKey key k es.toList).run P w= .ok r w) {z:Value} (hz:r=none→(zeroValue elem).run P w= .ok z w) (ok:Bool):
 (Instr.lookup t x k ok).run P w= .ok (match r with | some (_,v)=>if ok then .tuple #[v,.bool true] else v | none=>if ok then .tuple #[z,.bool false] else z) w:=by
 rw[Instr.lookup]
 simp only[Sem.run_bind,run_underlying hu,Result.andThen_ok]
 rcases yh.is with ⟨rfl,rfl⟩ | ⟨b,clock,rfl,hb⟩
 · simp only[Sem.run_bind,Sem.run_pure,Result.andThen_ok,EY,hf]
   cases r with
   | none=>simp [hz rfl]
   | some q=>simp
 · have zh:(getObj b).run P w= .ok (.map es clock) w:=by simp [getObj,Sem.run,hb]
   simp only[Sem.run_bind,Sem.run_pure,Result.andThen_ok,zh,EY,hf]
   cases r with
   | none=>simp [hz rfl]
   | some q=>simp
theorem zj {φ:Ph} (hg:GL E φ) {h:aw} {w:World} (ok:OK E φ h w) {ts:List AV} {a:Act} (ht:LR φ ts a.tmps.toList) {o:Oper} {v:AV} (e:dW E ts h o.op=some v):
 ∃v',VR φ v v'∧∀w',w'.heap=w.heap→(execOp a.eval o).run E.P w'= .ok (.value v') w':=by
 have ev:∀{x:Operand} {v:AV},eu E ts x=some v→VR φ v (a.eval x):=fun h=>nw hg ht h
 unfold execOp
 generalize o.op=op at e ⊢
 unfold dW at e
 split at e
 ·
  split at e
  · rename_i hx
    obtain ⟨x',hx',hr⟩:=DB ok (ev hx) e
    exact ⟨x',hx',fun w' hw=>fB (hr w' hw)⟩
  · simp at e
 ·
  split at e
  · rename_i el v0 hs hd hx
    split at e
    · rename_i he
      simp at e;subst e
      have h1:=ev hx
      generalize lC:a.eval _=cv at h1
      cases h1
      refine ⟨.string .empty,VR.str .empty,fun w' _=>fB ?_⟩
      simp [lC,convert,run_underlying hs,run_underlying hd,run_underlying he,Conv.bytesToString]
    · rename_i i o len _ _ he
      split at e
      · rename_i l hb
        simp at e;subst e
        have h1:=ev hx
        generalize lC:a.eval _=cv at h1
        cases h1 with
        | @slice _ lc _ _ _ _ hφ=>
        unfold EJ at hb
        split at hb
        · rename_i cs el' ro hgc
          split at hb
          · rename_i hle
            obtain ⟨C,e',lo,hi,hbk,hc⟩:=ok.cells hgc hφ
            obtain ⟨vs,hvl,C1,AX⟩:=hc.range o len hle
            obtain ⟨ns,rfl,rfl⟩:=zg AX hb
            refine ⟨.string ⟨(ns.map (fun n=>UInt8.ofNat n.toNat)).toArray⟩,?_,fun w' hw'=>fB ?_⟩
            · have:=VR.str (φ:=φ) ⟨(ns.map (fun n=>UInt8.ofNat n.toNat)).toArray⟩
              simpa using this
            · rw[←hw'] at hbk
              have A0:=nM (P:=E.P) hbk (lc.off+o) _ C1
              rw[hvl] at A0
              have:=wc ns A0 (gT ‹_› ‹_› lc.iT)
              rw[lC]
              simp only[convert,Sem.run_bind,run_underlying hs,run_underlying hd,Result.andThen_ok,run_underlying he]
              exact this
          · simp at hb
        · simp at hb
      · simp at e
    · simp at e
  · simp at e
 ·
  rename_i t x ix hU
  split at e
  · rename_i key elem m k hu hm hk
    split at e
    · rename_i xY
      have EZ:∃d,E.P.underlying key=some d∧iY (some d) k=true:=by
       cases hd:E.P.underlying key with
       | none=>rw[hd] at xY;simp [iY] at xY
       | some d=>rw[hd] at xY;exact ⟨d,rfl,xY⟩
      obtain ⟨d,hd,yi⟩:=EZ
      have UD:=ev hm
      have PS:=ev hk
      split at e
      · simp at e
      · rename_i es yh
        have vm:∃gL:Array MapEntry,Hr φ es gL.toList∧∀w',w'.heap=w.heap→Entries E.P (a.eval x) gL w':=by
         split at yh
         · simp at yh;subst yh
           generalize lC:a.eval x=cv at UD
           cases UD
           exact ⟨#[],⟨rfl,fun i x y p _=>by simp at p⟩,fun w' _=>⟨.inl ⟨rfl,rfl⟩⟩⟩
         · rename_i i
           split at yh
           · rename_i es0 clock hgm
             simp at yh;subst yh
             generalize lC:a.eval x=cv at UD
             cases UD with
             | @map _ l hφ=>
             have Az:=ok.live i _ l hgm hφ
             obtain ⟨Hf,gL,hb,g_⟩:=Az
             exact ⟨gL,g_,fun w' hw=>⟨.inr ⟨l.eg,clock,rfl,by rw[hw];exact hb⟩⟩⟩
           · simp at yh
         · simp at yh
        obtain ⟨gL,g_,gv⟩:=vm
        split at e
        · simp at e
        · rename_i j v0 hf
          obtain ⟨r',h1,h2⟩:=qb yi PS g_ hf
          cases r' with
          | none=>exact h2.elim
          | some q=>
          obtain ⟨j',v'⟩:=q
          obtain ⟨_,C1,_⟩:=h2
          simp at e;subst e
          refine ⟨if hU then .tuple #[v',.bool true] else v',?_,fun w' hw=>fB ?_⟩
          · split
            · exact VR.tuple' (iO:=[v',.bool true]) (.cons C1 (.cons (.bool true) (.nil φ)))
            · exact C1
          · exact A1 hu (gv w' hw) hd (fun b n=>qK hd yi PS b n w') h1 (z:=undef) (fun e=>by simp at e) hU
        · rename_i hf
          obtain ⟨r',h1,h2⟩:=qb yi PS g_ hf
          cases r' with
          | some q=>exact h2.elim
          | none=>
          split at e
          · rename_i z hz
            simp at e;subst e
            obtain ⟨z',xX,jE⟩:=iH hz
            refine ⟨if hU then .tuple #[z',.bool false] else z',?_,fun w' hw=>fB ?_⟩
            · split
              · exact VR.tuple' (iO:=[z',.bool false]) (.cons (xX φ) (.cons (.bool false) (.nil φ)))
              · exact xX φ
            · exact A1 hu (gv w' hw) hd (fun b n=>qK hd yi PS b n w') h1 (fun _=>jE w') hU
          · simp at e
    · split at e
      · rename_i xY
        have EZ:∃d,E.P.underlying key=some d∧j0 E (some d) k=true:=by
         cases hd:E.P.underlying key with
         | none=>rw[hd] at xY;simp [j0] at xY
         | some d=>rw[hd] at xY;exact ⟨d,rfl,xY⟩
        obtain ⟨d,hd,yi⟩:=EZ
        have UD:=ev hm
        have PS:=ev hk
        split at e
        · simp at e
        · rename_i es yh
          have vm:∃gL:Array MapEntry,Hr φ es gL.toList∧∀w',w'.heap=w.heap→Entries E.P (a.eval x) gL w':=by
           split at yh
           · simp at yh;subst yh
             generalize lC:a.eval x=cv at UD
             cases UD
             exact ⟨#[],⟨rfl,fun i x y p _=>by simp at p⟩,fun w' _=>⟨.inl ⟨rfl,rfl⟩⟩⟩
           · rename_i i
             split at yh
             · rename_i es0 clock hgm
               simp at yh;subst yh
               generalize lC:a.eval x=cv at UD
               cases UD with
               | @map _ l hφ=>
               have Az:=ok.live i _ l hgm hφ
               obtain ⟨Hf,gL,hb,g_⟩:=Az
               exact ⟨gL,g_,fun w' hw=>⟨.inr ⟨l.eg,clock,rfl,by rw[hw];exact hb⟩⟩⟩
             · simp at yh
           · simp at yh
          obtain ⟨gL,g_,gv⟩:=vm
          split at e
          · simp at e
          · rename_i j v0 hf
            obtain ⟨r',h1,h2⟩:=mE PS g_ hf
            cases r' with
            | none=>exact h2.elim
            | some q=>
            obtain ⟨j',v'⟩:=q
            obtain ⟨_,C1,_⟩:=h2
            simp at e;subst e
            refine ⟨if hU then .tuple #[v',.bool true] else v',?_,fun w' hw=>fB ?_⟩
            · split
              · exact VR.tuple' (iO:=[v',.bool true]) (.cons C1 (.cons (.bool true) (.nil φ)))
              · exact C1
            · exact zi hu (gv w' hw) (fun b=>pr hd yi PS b 9998 w') (j7 hd yi PS (h1 w')) (z:=undef) (fun e=>by simp at e) hU
          · rename_i hf
            obtain ⟨r',h1,h2⟩:=mE PS g_ hf
            cases r' with
            | some q=>exact h2.elim
            | none=>
            split at e
            · rename_i z hz
              simp at e;subst e
              obtain ⟨z',xX,jE⟩:=iH hz
              refine ⟨if hU then .tuple #[z',.bool false] else z',?_,fun w' hw=>fB ?_⟩
              · split
                · exact VR.tuple' (iO:=[z',.bool false]) (.cons (xX φ) (.cons (.bool false) (.nil φ)))
                · exact xX φ
              · exact zi hu (gv w' hw) (fun b=>pr hd yi PS b 9998 w') (j7 hd yi PS (h1 w')) (fun _=>jE w') hU
            · simp at e
      · simp at e
  · simp at e
 ·
  split at e
  · rename_i t i Pc Hy
    have hl:=iG hg ht Hy
    obtain ⟨y,ys,uo,hy,EU⟩:=hl.cz
    rw[EU.gK] at uo
    have h0:∀(args:Array Operand),args.toList.map a.eval=[y]→args.map a.eval= #[y]:=fun args e=>by rw[map_toArray,e]
    have h0:=h0 _ uo
    cases hy with
    | @map _ l hφ=>
    split at e
    · rename_i es clock hu hgm
      simp at e;subst e
      have Az:=ok.live i _ l hgm hφ
      obtain ⟨Hf,gL,hb,hlen,_⟩:=Az
      refine ⟨_,.int _ _,fun w' hw=>?_⟩
      rw[←hw] at hb
      have zh:(getObj l.eg).run E.P w'= .ok (.map gL clock) w':=by simp [getObj,Sem.run,hb]
      simp [resolve,invoke,builtin,h0,Builtin.len_,Pc,run_underlying hu,goInt,zh,hlen]
    · simp at e
  · simp at e
 · simp at e
end Go.Ab
end
section
namespace Go.Ab
variable {E:Env}
theorem we (z:List AV):∀(n i:Nat),i<n*z.length→(gE z n)[i]? =z[i%z.length]?
 | 0,i,h=>by omega
 | n+1,i,h=>by
   rw[gE]
   by_cases hi:i<z.length
   · rw[List.getElem?_append_left hi,Nat.mod_eq_of_lt hi]
   · rw[List.getElem?_append_right (by omega),we z n (i - z.length) (by rw[Nat.add_mul] at h;omega)]
     rw[Nat.mod_eq_sub_mod (a:=i) (by omega)]
theorem ny (z:List AV):∀n,(gE z n).length=n*z.length
 | 0=>by simp [gE]
 | n+1=>by rw[gE,List.length_append,ny z n,Nat.add_mul];omega
theorem Kk {φ:Ph} {z:List AV} {z':Array Value} (h:LR φ z z'.toList) (n:Nat):LR φ (gE z n) ((Array.range (n*z'.size)).map (fun i=>z'[i%z'.size]!)).toList:=by
 have hl:z.length=z'.size:=by simpa using h.1
 refine ⟨by rw[ny];simp [hl],fun i x y hx hy=>?_⟩
 have hi:i<n*z.length:=by
  have:=(List.getElem?_eq_some_iff.1 hx).1
  rwa [ny] at this
 rw[we z n i hi] at hx
 obtain ⟨v,hv,hr⟩:=h.get hx
 have aeb:0<z'.size:=by
  rcases Nat.eq_zero_or_pos z'.size with h0 | h0
  · rw[hl,h0] at hi;omega
  · exact h0
 have:i%z'.size<z'.size:=Nat.mod_lt _ aeb
 rw[hl] at hi
 simp [hi] at hy
 rw[hl] at hv
 simp [this] at hv
 simp [this] at hy
 rw[←hy,hv];exact hr
structure Made (E:Env) (φ:Ph) (obj:aY) (mk:Nat→AV) (O:Obj) (mk':Nat→Value):Prop where
 val:∀(φ':Ph) (i b:Nat),φ.le φ'→φ' i=some ⟨b,0,0⟩→VR φ' (mk i) (mk' b)
 obj:∀(φ':Ph) (b:Nat),φ.le φ'→OR E φ' obj ⟨b,0,0⟩ (some O)
theorem wg {φ φ':Ph} (hle:φ.le φ') {cs:List AV} {C:Array Value} (h:LR φ cs C.toList) (t:TypeId) (b:Nat):OR E φ' (.cells cs t false) ⟨b,0,0⟩ (some (.cells C t)):=by
 refine ⟨C,t,0,0,rfl,⟨?_,fun k x hk=>?_,fun _ k _ _=>by omega,fun _ _ _=>rfl⟩,fun _=>⟨rfl,rfl,fun _ _ _=>by have:=h.1;simp at this;exact this.symm⟩⟩
 · have:=h.1;simp at this;simp [fK,this]
 · obtain ⟨y,hy,hr⟩:=h.get hk
   exact ⟨y,by simpa using hy,hr.mono hle⟩
set_option linter.unusedSimpArgs false in
set_option maxHeartbeats 1000000 in
theorem wh {φ:Ph} (hg:GL E φ) {ts:List AV} {a:Act} (ht:LR φ ts a.tmps.toList) {o:Oper} {obj:aY} {mk:Nat→AV} (e:ey E ts o.op=some (obj,mk)):
 ∃O mk',Made E φ obj mk O mk'∧∀w,(execOp a.eval o).run E.P w= .ok (.value (mk' w.heap.size)) (w.alloc O):=by
 have ev:∀{x:Operand} {v:AV},eu E ts x=some v→VR φ v (a.eval x):=fun h=>nw hg ht h
 unfold execOp
 generalize o.op=op at e ⊢
 unfold ey at e
 split at e
 ·
  rename_i t
  split at e
  · rename_i z hz
    simp at e;obtain ⟨rfl,rfl⟩:=e
    obtain ⟨z',xX,jE⟩:=iH hz
    refine ⟨.cells z'.cells t,fun b=> .pointer (some ⟨b,0,none⟩),⟨fun φ' i b _ hi=>by have:=VR.ptr (φ:=φ') 0 hi;simpa using this,fun φ' b hle=>wg hle (xX φ).cells _ b⟩,fun w=>fB ?_⟩
    simp [Instr.alloc,jE,newVar,newRow]
  · simp at e
 ·
  rename_i t x
  split at e
  · rename_i v hv
    simp at e;obtain ⟨rfl,rfl⟩:=e
    refine ⟨.cells (a.eval x).cells t,fun b=> .pointer (some ⟨b,0,none⟩),⟨fun φ' i b _ hi=>by have:=VR.ptr (φ:=φ') 0 hi;simpa using this,fun φ' b hle=>wg hle (ev hv).cells _ b⟩,fun w=>fB ?_⟩
    simp [Instr.box,newVar,newRow]
  · simp at e
 ·
  rename_i t len parts
  split at e
  · rename_i elem hu
    split at e
    · rename_i n z ps hn hz Pa
      split at e
      · rename_i hc
        split at e
        · rename_i cs hf
          simp at e;obtain ⟨rfl,rfl⟩:=e
          obtain ⟨z',xX,jE⟩:=iH hz
          have hp:=yf hg ht Pa
          have Yn:z'.cells.size=n:=by have:=(xX φ).cells.1;simp at this;omega
          have PT:=Kk (xX φ).cells len
          rw[Yn] at PT
          obtain ⟨C',ze,AX⟩:=tQ (place:=fun i=>some (i*n,n)) (qs:=(parts.map fun (i,x)=>(i,a.eval x)).toList) (by simpa using hp) PT hf
          refine ⟨.cells C' elem,fun b=> .slice (some ⟨b,0,none⟩) len len,⟨fun φ' i b _ hi=>by have:=VR.slice (φ:=φ') 0 len len false hi;simpa [gT] using this,fun φ' b hle=>wg hle AX _ b⟩,fun w=>fB ?_⟩
          have h24:¬len*n>2^24:=by omega
          simp only[Instr.buildSlice,Sem.run_bind,run_underlying hu,Result.andThen_ok,eE hn,h24,if_false,Sem.run_pure]
          by_cases h0:len*n=0
          · simp only[h0,if_true,Sem.run_pure,Result.andThen_ok]
            rw[h0] at ze
            have r0:Array.range 0= #[]:=rfl
            simp [r0] at ze
            simp [ze,newRow,r0]
          · simp only[h0,if_false,Sem.run_bind,jE,Result.andThen_ok,Sem.run_pure]
            rw[Yn]
            simp only[ze]
            simp [newRow]
        · simp at e
      · simp at e
    · simp at e
  · simp at e
 ·
  rename_i t lo co
  split at e
  · rename_i elem k len k' cap hu hl hc
    split at e
    · rename_i n bytes z hn hb hz
      split at e
      · rename_i Kh
        obtain ⟨c1,c2,c3,c4,c5⟩:=Kh
        simp at e;obtain ⟨rfl,rfl⟩:=e
        obtain ⟨z',xX,jE⟩:=iH hz
        have Yn:z'.cells.size=n:=by have:=(xX φ).cells.1;simp at this;omega
        have PT:=Kk (xX φ).cells cap.toNat
        rw[Yn] at PT
        have h1:=ev hl
        have h2:=ev hc
        generalize PU:a.eval lo=lv at h1
        generalize lC:a.eval co=cv at h2
        cases h1;cases h2
        refine ⟨.cells ((Array.range (cap.toNat*n)).map (fun i=>z'.cells[i%n]!)) elem,fun b=> .slice (some ⟨b,0,none⟩) len.toNat cap.toNat,
         ⟨fun φ' i b _ hi=>by have:=VR.slice (φ:=φ') 0 len.toNat cap.toNat false hi;simpa [gT] using this,fun φ' b hle=>wg hle PT _ b⟩,fun w=>fB ?_⟩
        have w1:IntKind.i64.wrap len=len:=IntWalk.i64_in _ (by omega)
        have w2:IntKind.i64.wrap cap=cap:=IntWalk.i64_in _ (by omega)
        obtain ⟨inf,HA,ik⟩:=p_ (tO _ hb) w
        have t1:¬(cap<0∨(2^48:Int)<bytes*cap):=by omega
        simp only[Instr.makeSlice,Sem.run_bind,run_underlying hu,Result.andThen_ok,PU,lC,asInt,asIntOf,Sem.run_pure,HA,ik,w1,w2]
        have Pd:(0:Int)≤inf.bytes*cap:=Int.mul_nonneg (by omega) (by omega)
        have tl:(decide (cap<0)||decide ((inf.bytes:Int)*cap>2^48))=false:=by
         rw[ik];simp only[Bool.or_eq_false_iff,decide_eq_false_iff_not];omega
        have tl2:decide (len<0)=false:=by simp only[decide_eq_false_iff_not];omega
        have tl3:decide (len>cap)=false:=by simp only[decide_eq_false_iff_not];omega
        rw[←ik]
        simp only[tl,tl2,tl3,Bool.or_self,Bool.false_eq_true,if_false,run_askRoom,eE hn,Sem.run_bind,Result.andThen_ok]
        by_cases h0:cap.toNat*n=0
        · have r0:Array.range 0= #[]:=rfl
          simp [h0,newRow,r0]
        · simp only[h0,if_false,Sem.run_bind,jE,Result.andThen_ok,Sem.run_pure]
          simp [newRow,Yn]
      · simp at e
    · simp at e
  · simp at e
 ·
  rename_i t r
  split at e
  · simp at e;obtain ⟨rfl,rfl⟩:=e
    exact ⟨.map #[] 0,fun b=> .map (some b),⟨fun φ' i b _ hi=>by have:=VR.map (φ:=φ') hi;simpa using this,fun φ' b hle=>⟨rfl, #[],rfl,rfl,fun i x y p _=>by simp at p⟩⟩,fun w=>fB (by simp [Instr.makeMap])⟩
  · rename_i o
    split at e
    · rename_i hu hv
      simp at e;obtain ⟨rfl,rfl⟩:=e
      have h1:=ev hv
      generalize PU:a.eval o=lv at h1
      cases h1
      exact ⟨.map #[] 0,fun b=> .map (some b),⟨fun φ' i b _ hi=>by have:=VR.map (φ:=φ') hi;simpa using this,fun φ' b hle=>⟨rfl, #[],rfl,rfl,fun i x y p _=>by simp at p⟩⟩,fun w=>fB (by simp [Instr.makeMap,run_underlying hu,PU,asInt,asIntOf])⟩
    · simp at e
 ·
  rename_i t x
  split at e
  · rename_i s hu hx
    simp at e;obtain ⟨rfl,rfl⟩:=e
    have h1:=ev hx
    generalize PU:a.eval x=lv at h1
    generalize Kj:AV.str s=s0 at h1
    cases h1<;>cases Kj
    rename_i s'
    exact ⟨.stringIter s' 0,fun b=> .pointer (some ⟨b,0,none⟩),⟨fun φ' i b _ hi=>by have:=VR.ptr (φ:=φ') 0 hi;simpa using this,fun φ' b hle=>⟨rfl,s',rfl,rfl⟩⟩,fun w=>fB (by simp [Instr.range,run_underlying hu,PU])⟩
  · rename_i hu hx
    simp at e;obtain ⟨rfl,rfl⟩:=e
    have h1:=ev hx
    generalize PU:a.eval x=lv at h1
    cases h1
    exact ⟨.mapIter none 0 #[] 0,fun b=> .pointer (some ⟨b,0,none⟩),⟨fun φ' i b _ hi=>by have:=VR.ptr (φ:=φ') 0 hi;simpa using this,fun φ' b hle=>⟨rfl,rfl⟩⟩,fun w=>fB (by simp [Instr.range,run_underlying hu,PU])⟩
  · simp at e
 · simp at e
end Go.Ab
end
