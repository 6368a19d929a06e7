import Derived.Laws.StructEq
import Derived.Laws.Slices
import Derived.Laws.Strings
import Derived.ChangeKeysEq
import Derived.Deep.MidRow
import Derived.Lib.Strings
import Derived.IntWalk
import Derived.Test.YtijehnelcbdlgaaGreatA0
set_option linter.unusedVariables false
set_option linter.unusedSimpArgs false
section
namespace Go.Ab
variable {E:Env}
def GL (E:Env) (φ:Ph):Prop:=∀g,g<E.G→φ g=some ⟨g,0,0⟩
theorem rp {φ:Ph} (hg:GL E φ) {ts:List AV} {a:Act} (ht:LR φ ts a.tmps.toList) {x:Operand} {v:AV} (h:gn E ts x=some v):VR φ v (a.eval x):=by
 cases x with
 | tmp t=>
  simp only[gn,Option.some.injEq] at h;subst h
  have:=ht.getD (VR.undef φ) t
  rw[show a.eval (.tmp t)=a.tmps.toList.getD t undef by simp [Act.eval,Array.getD_eq_getD_getElem?,List.getD]]
  exact this
 | const c=>exact Ij φ h
 | global g=>
  simp only[gn] at h
  split at h
  · rename_i pI;simp at h;subst h;have:=VR.ptr 0 (hg g pI);simpa [Act.eval] using this
  · simp at h
 | func f=>simp [gn] at h;subst h;exact VR.aaC (a':=[]) (b':=[]) f (LR.nil φ) (LR.nil φ)
theorem kP {φ:Ph} (hg:GL E φ) {ts:List AV} {a:Act} (ht:LR φ ts a.tmps.toList) {l:List Operand} {r:List AV} (h:lq E ts l=some r):LR φ r (l.map a.eval):=by
 obtain ⟨hl,hv⟩:=yf h
 refine ⟨by simp [hl],fun i x y hx hy=>?_⟩
 simp at hy
 obtain ⟨o,ho,rfl⟩:=hy
 obtain ⟨z,hz,he⟩:=hv i o ho
 rw[hx] at hz;simp at hz;subst hz
 exact rp hg ht he
theorem fZ {P:Program} {t:TypeId} {n:Nat} (h:(P.info? t).map (·.size)=some n) (w:World):(sizeOf t).run P w= .ok n w:=by
 cases hq:P.info? t with
 | none=>simp [hq] at h
 | some i=>simp [hq] at h;simp [sizeOf,typeInfo,hq,h]
theorem uV {P:Program} {t:TypeId} {n:Nat} (h:(P.info? t).map (·.bytes)=some n) (w:World):∃i,(typeInfo t).run P w= .ok i w∧i.bytes=n:=by
 cases hq:P.info? t with
 | none=>simp [hq] at h
 | some i=>simp [hq] at h;exact ⟨i,by simp [typeInfo,hq],h⟩
theorem kQ {t:TypeId} {z:AV} (h:kE E t=some z):∃z',(∀φ,VR φ z z')∧∀w,(zeroValue t).run E.P w= .ok z' w:=by
 unfold kE at h
 split at h
 · rename_i i hi
   split at h
   · rename_i z' hz
     exact ⟨z',fun φ=>Ij φ h,fun w=>by simp [zeroValue,typeInfo,hi,hz]⟩
   · simp at h
 · simp at h
theorem vZ {t:TypeId} {b:Bool} (h:jr E t=some b) (w:World):(isAgg t).run E.P w= .ok b w:=by
 unfold jr at h
 unfold isAgg
 rw[Sem.run_bind]
 split at h<;>rename_i hu<;>simp at h
 · subst h;rw[run_underlying hu];rfl
 · subst h;rw[run_underlying hu];rfl
 · rename_i d h1 h2
   subst h;rw[run_underlying hu]
   cases d<;>first | rfl | (exact absurd rfl (h1 _)) | (exact absurd rfl (h2 _ _))
theorem toArray_extract (l:List Value) (a b:Nat):l.toArray.extract a b=((l.drop a).take (b - a)).toArray:=by simp
theorem su {φ:Ph} {t:TypeId} {cs:List AV} {lj:List Value} (hc:LR φ cs lj) {off:Nat} {v:AV} (h:nG E t cs off=some v):
 ∃v',VR φ v v'∧∀w,(part t lj.toArray off).run E.P w= .ok v' w:=by
 unfold nG at h
 split at h
 · rename_i ha
   split at h
   · rename_i n hn
     split at h
     · simp at h;subst h
       refine ⟨.agg ((lj.drop off).take n).toArray,VR.Yf ((hc.drop off).take n),fun w=>?_⟩
       simp only[part,Sem.run_bind,vZ ha,Result.andThen_ok,if_true,fZ hn,Sem.run_pure,toArray_extract,Nat.add_sub_cancel_left]
     · simp at h
   · simp at h
 · rename_i ha
   obtain ⟨y,hy,hv⟩:=hc.get h
   refine ⟨y,hv,fun w=>?_⟩
   simp only[part,Sem.run_bind,vZ ha,Result.andThen_ok,Bool.false_eq_true,if_false]
   have:lj.toArray[off]? =some y:=by simpa using hy
   simp [this]
 · simp at h
theorem bytes_beq (a b:ByteArray):(a.toList==b.toList)=(a.data.toList==b.data.toList):=by rw[ByteArray.toList_eq,ByteArray.toList_eq]
set_option linter.unusedSimpArgs false in
theorem Tr {φ:Ph} {op:BinOp} {k:IntKind} {x y:Int} {v:AV} (h:sA op k x y=some v) (hs:op≠ .shl) (uT:op≠ .shr) (t:TypeId):
 ∃v',VR φ v v'∧∀w,(binOp op t (.int k x) (.int k y)).run E.P w= .ok v' w:=by
 unfold sA at h
 split at h
 all_goals first
  | (simp at h;subst h;exact ⟨_,.int _ _,fun w=>by simp [binOp,Op.intArith,Op.intBits,Op.intCmp]⟩)
  | (simp at h;subst h;exact ⟨_,.bool _,fun w=>by simp [binOp,Op.intArith,Op.intBits,Op.intCmp]⟩)
  | (split at h
     · simp at h
     · rename_i hy
       simp at h;subst h;exact ⟨_,.int _ _,fun w=>by simp [binOp,Op.intDiv,hy]⟩)
  | simp at h
set_option linter.unusedSimpArgs false in
theorem Ts {φ:Ph} {op:BinOp} {x y:ByteArray} {v:AV} (h:Ie op x.data.toList y.data.toList=some v) (t:TypeId):
 ∃v',VR φ v v'∧∀w,(binOp op t (.string x) (.string y)).run E.P w= .ok v' w:=by
 unfold Ie at h
 split at h
 · split at h
   · rename_i pI
     simp at h;subst h
     refine ⟨.string (x++y),?_,fun w=>?_⟩
     · have:=VR.str (φ:=φ) (x++y);simpa using this
     · have auL:x.size+y.size<1099511627776:=by
        have e:∀b:ByteArray,b.size=b.data.toList.length:=fun b=>by cases b;rfl
        rw[e,e];exact pI
       have hm:IntKind.i64.max=9223372036854775807:=by decide
       have:¬((x.size+y.size:Nat):Int) >IntKind.i64.max:=by rw[hm];omega
       simp only[binOp,Op.stringOp,this,if_false,Sem.run_pure]
   · simp at h
 all_goals first
  | (simp only[Option.some.injEq] at h;subst h;exact ⟨_,.bool _,fun w=>by simp only[binOp,Op.stringOp,bytes_beq,ByteArray.toList_eq,Sem.run_pure]⟩)
  | simp at h
theorem Mb {φ:Ph} {t:TypeId} {x y:AV} {r:Bool} (h:Ye E t x y=some r) {x' y':Value} (hx:VR φ x x') (hy:VR φ y y') (dd:Nat):
 ∀w,(Op.equalIn (dd+1) t x' y').run E.P w= .ok r w:=by
 intro w
 unfold Ye at h
 split at h<;>(try (simp at h;done))
 all_goals
  rename_i hd
  split at h<;>(try (simp at h;done))
  all_goals
   simp only[Option.some.injEq] at h
   subst h
   unfold Op.equalIn
   rw[Sem.run_bind,run_underlying hd]
   cases hx<;>cases hy<;>rfl
theorem Qq {φ:Ph} {t:TypeId} {x y:AV} {r:Bool} (h:Ye E t x y=some r) {x' y':Value} (hx:VR φ x x') (hy:VR φ y y'):
 ∀w,(Op.equal t x' y').run E.P w= .ok r w:=Mb h hx hy 9999
theorem uo {φ:Ph} {eq:TypeId→AV→AV→Option Bool} {d:Nat} (heq:∀t a b r a' b',eq t a b=some r→VR φ a a'→VR φ b b'→∀w,(Op.equalIn d t a' b').run E.P w= .ok r w)
 {xs ys:List AV} {HI Ep:Array Value} (hx:LR φ xs HI.toList) (hy:LR φ ys Ep.toList):∀{fs:List Field} {r:Bool} (_:ss E eq xs ys fs=some r) (w:World),(Op.eqFields d HI Ep fs).run E.P w= .ok r w
 | [],r,h,w=>by simp [ss] at h;subst h;rfl
 | f::fs,r,h,w=>by
  simp only[ss] at h
  unfold Op.eqFields
  split at h
  · rename_i hn
    rw[if_neg (by simp [hn])]
    exact uo heq hx hy h w
  · rename_i hn
    rw[if_pos hn]
    split at h
    · rename_i a b ha hb
      obtain ⟨a',hva,hra⟩:=su hx ha
      obtain ⟨b',hvb,hrb⟩:=su hy hb
      rw[Array.toArray_toList] at hra hrb
      split at h
      · rename_i he
        have:=uo heq hx hy h w
        simp [Sem.run_bind,hra,hrb,heq _ _ _ _ _ _ he hva hvb,this]
      · rename_i he
        simp at h;subst h
        simp [Sem.run_bind,hra,hrb,heq _ _ _ _ _ _ he hva hvb]
      · simp at h
    · simp at h
theorem sI {φ:Ph}:∀(n d:Nat) (t:TypeId) (a b:AV) (r:Bool) (a' b':Value) (_:pP E n t a b=some r) (_:VR φ a a') (_:VR φ b b') (w:World),(Op.equalIn (d+n) t a' b').run E.P w= .ok r w
 | 0,_,_,_,_,_,_,_,h,_,_,_=>by simp [pP] at h
 | n+1,d,t,a,b,r,a',b',h,ha,hb,w=>by
  rw[←Nat.add_assoc]
  unfold pP at h
  split at h
  · cases ha;cases hb
    split at h
    · rename_i hu
      split at h
      · rename_i hk;subst hk
        simp at h;subst h
        exact run_equalIn_int w (d+n) t _ _ _ _ hu
      · simp at h
    · simp at h
  · cases ha;cases hb
    split at h
    · rename_i hu
      simp only[Option.some.injEq] at h;subst h
      rw[run_equalIn_string w (d+n) t _ _ hu,ByteArray.toList_eq,ByteArray.toList_eq]
    · simp at h
  · obtain ⟨HI,rfl,HK⟩:=ha.mK
    obtain ⟨Ep,rfl,Af⟩:=hb.mK
    split at h
    · rename_i fs hu
      split at h
      · rename_i lN
        have hfs:E.P.fieldsOf t=fs:=by simp [Program.fieldsOf,hu]
        rw[run_equalIn_struct w (d+n) t HI Ep (by rw[hfs];exact hu) lN,hfs]
        exact uo (fun t a b r a' b' h1 h2 h3 w=>sI n d t a b r a' b' h1 h2 h3 w) HK Af h w
      · simp at h
    · simp at h
  · exact Mb h ha hb (d+n) w
theorem F7 {op:BinOp} {t:TypeId} (x y:Operand) (xs ys:Array Value) (h:E.P.eqGuardType E.P.depth t=false) (w:World):(eqGuard op t x y (.agg xs) (.agg ys)).run E.P w= .ok () w:=by
 unfold eqGuard
 cases op<;>(try rfl)
 all_goals simp [Sem.run_bind,run_program,h]
theorem Aw {op:BinOp} (h1:op≠ .eql) (h2:op≠ .neq) (t:TypeId) (x y:Operand) (a b:Value) (w:World):(eqGuard op t x y a b).run E.P w= .ok () w:=by
 unfold eqGuard;cases op<;>first | rfl | (exact absurd rfl h1) | (exact absurd rfl h2)
def NF (xc yc:Bool):Value→Value→Bool
 | .nilIface,.nilIface=>xc||yc
 | .agg _,.agg _=>false
 | _,_=>true
theorem qj {op:BinOp} (t:TypeId) (x y:Operand) (a b:Value) (h:NF (isConst x) (isConst y) a b=true) (w:World):
 (eqGuard op t x y a b).run E.P w= .ok () w:=by
 unfold eqGuard
 cases op<;>(try rfl)
 all_goals
  cases a<;>cases b<;>first
   | rfl
   | (simp [NF] at h;done)
   | (cases x<;>cases y<;>first | rfl | (simp [NF,isConst] at h;done))
theorem Mc {k k':IntKind} {x y:Int} (hy:¬y<0) (t:TypeId):
 (∀w,(binOp .shl t (.int k x) (.int k' y)).run E.P w= .ok (.int k (k.wrap (x*2^(min y.toNat k.bits)))) w)∧
 (∀w,(binOp .shr t (.int k x) (.int k' y)).run E.P w= .ok (.int k (x.fdiv (2^(min y.toNat k.bits)))) w):=by
 constructor<;>intro w<;>simp [binOp,Op.shift,hy]
theorem Io {φ:Ph} {a b:AV} {a' b':Value} (hx:VR φ a a') (hy:VR φ b b') {xo yo:Operand} (h:tI (isConst xo) (isConst yo) a b=true):
 NF (isConst xo) (isConst yo) a' b'=true:=by
 cases hx<;>cases hy<;>first | rfl | exact h | (simp [tI] at h;done)
def nH:Value→Prop
 | .float _ _ | .complex _ _ _=>False
 | _=>True
theorem VR.nH {φ:Ph} {a:AV} {a':Value} (h:VR φ a a'):Ab.nH a':=by
 cases h with
 | any _ h=>cases a'<;>first | exact trivial | cases h
 | _=>exact trivial
theorem binOp_eql (t:TypeId) {a b:Value} (h1:∀k m k' m',a= .int k m→b= .int k' m'→False) (h2:∀k m,a= .string k→b= .string m→False) (h3:nH a) (h4:nH b):
 binOp .eql t a b=(do pure (.bool (←Op.equal t a b)):Sem Value):=by
 unfold binOp
 split<;>first
  | rfl
  | contradiction
  | (exact (h1 _ _ _ _ rfl rfl).elim)
  | (exact (h2 _ _ rfl rfl).elim)
  | (exact h3.elim)
  | (exact h4.elim)
  | (exfalso;simp_all;done)
theorem binOp_neq (t:TypeId) {a b:Value} (h1:∀k m k' m',a= .int k m→b= .int k' m'→False) (h2:∀k m,a= .string k→b= .string m→False) (h3:nH a) (h4:nH b):
 binOp .neq t a b=(do pure (.bool (!(←Op.equal t a b))):Sem Value):=by
 unfold binOp
 split<;>first
  | rfl
  | contradiction
  | (exact (h1 _ _ _ _ rfl rfl).elim)
  | (exact (h2 _ _ rfl rfl).elim)
  | (exact h3.elim)
  | (exact h4.elim)
  | (exfalso;simp_all;done)
set_option linter.unusedSimpArgs false in
theorem aaL {φ:Ph} {op:BinOp} {t:TypeId} {xo yo:Operand} {a b v:AV} (h:Cj E op t (isConst xo) (isConst yo) a b=some v) {a' b':Value} (hx:VR φ a a') (hy:VR φ b b'):
 ∃v',VR φ v v'∧∀w,(do eqGuard op t xo yo a' b';binOp op t a' b':Sem Value).run E.P w= .ok v' w:=by
 unfold Cj at h
 split at h
 ·
  cases hx;cases hy
  split at h
  · simp at h
  · rename_i hn
    simp at h;subst h
    refine ⟨_,.int _ _,fun w=>?_⟩
    rw[Sem.run_bind,Aw (by decide) (by decide)]
    exact (Mc (E:=E) hn t).1 w
 · cases hx;cases hy
   split at h
   · simp at h
   · rename_i hn
     simp at h;subst h
     refine ⟨_,.int _ _,fun w=>?_⟩
     rw[Sem.run_bind,Aw (by decide) (by decide)]
     exact (Mc (E:=E) hn t).2 w
 · rename_i k x k' y h1 h2
   cases hx;cases hy
   split at h
   · rename_i hk;subst hk
     obtain ⟨v',hv,hr⟩:=Tr (φ:=φ) (E:=E) h h1 h2 t
     refine ⟨v',hv,fun w=>?_⟩
     rw[Sem.run_bind,qj _ _ _ _ _ rfl]
     exact hr w
   · simp at h
 · cases hx;cases hy
   obtain ⟨v',hv,hr⟩:=Ts (φ:=φ) (E:=E) h t
   refine ⟨v',hv,fun w=>?_⟩
   rw[Sem.run_bind,qj _ _ _ _ _ rfl]
   exact hr w
 ·
  split at h
  · simp at h
  · rename_i hg
    split at h
    · rename_i r hr
      simp at h;subst h
      refine ⟨_,.bool r,fun w=>?_⟩
      obtain ⟨HI,rfl,HK⟩:=hx.mK
      obtain ⟨Ep,rfl,Af⟩:=hy.mK
      rw[Sem.run_bind,F7 _ _ _ _ (by simpa using hg)]
      have:=sI 16 9984 t _ _ r _ _ hr hx hy w
      simp only[Result.andThen_ok]
      rw[binOp_eql (a:= .agg HI) (b:= .agg Ep) t (fun _ _ _ _ e=>by simp at e) (fun _ _ e=>by simp at e) trivial trivial,Sem.run_bind]
      rw[show (Op.equal t (.agg HI) (.agg Ep)).run E.P w= .ok r w from this];rfl
    · simp at h
 · split at h
   · simp at h
   · rename_i hg
     split at h
     · rename_i r hr
       simp at h;subst h
       refine ⟨_,.bool (!r),fun w=>?_⟩
       obtain ⟨HI,rfl,HK⟩:=hx.mK
       obtain ⟨Ep,rfl,Af⟩:=hy.mK
       rw[Sem.run_bind,F7 _ _ _ _ (by simpa using hg)]
       have:=sI 16 9984 t _ _ r _ _ hr hx hy w
       simp only[Result.andThen_ok]
       rw[binOp_neq (a:= .agg HI) (b:= .agg Ep) t (fun _ _ _ _ e=>by simp at e) (fun _ _ e=>by simp at e) trivial trivial,Sem.run_bind]
       rw[show (Op.equal t (.agg HI) (.agg Ep)).run E.P w= .ok r w from this];rfl
     · simp at h
 · rename_i h1 h2 _
   split at h
   · rename_i hg
     split at h
     · rename_i r hr
       simp at h;subst h
       refine ⟨_,.bool r,fun w=>?_⟩
       rw[Sem.run_bind,qj _ _ _ _ _ (Io hx hy hg)]
       have:=Qq hr hx hy w
       simp only[Result.andThen_ok]
       rw[binOp_eql t (fun k m k' m' e e'=>by subst e;subst e';cases hx<;>cases hy<;>first | exact h1 _ _ _ _ rfl rfl | (simp [tI] at hg;done)) (fun k m e e'=>by subst e;subst e';cases hx<;>cases hy<;>first | exact h2 _ _ rfl rfl | (simp [tI] at hg;done)) (VR.nH hx) (VR.nH hy)]
       rw[Sem.run_bind,this];rfl
     · simp at h
   · simp at h
 · rename_i h1 h2 _
   split at h
   · rename_i hg
     split at h
     · rename_i r hr
       simp at h;subst h
       refine ⟨_,.bool (!r),fun w=>?_⟩
       rw[Sem.run_bind,qj _ _ _ _ _ (Io hx hy hg)]
       have:=Qq hr hx hy w
       simp only[Result.andThen_ok]
       rw[binOp_neq t (fun k m k' m' e e'=>by subst e;subst e';cases hx<;>cases hy<;>first | exact h1 _ _ _ _ rfl rfl | (simp [tI] at hg;done)) (fun k m e e'=>by subst e;subst e';cases hx<;>cases hy<;>first | exact h2 _ _ rfl rfl | (simp [tI] at hg;done)) (VR.nH hx) (VR.nH hy)]
       rw[Sem.run_bind,this];rfl
     · simp at h
   · simp at h
 · simp at h
end Go.Ab
end
section
namespace Go.Ab
variable {E:Env}
theorem afA {φ:Ph} {op:UnOp} {x v:AV} (h:unA op x=some v) {x':Value} (hx:VR φ x x'):∃v',VR φ v v'∧∀w,(Op.unary op x').run E.P w= .ok v' w:=by
 unfold unA at h
 split at h
 · cases hx;simp at h;subst h;exact ⟨_,.int _ _,fun w=>by simp [Op.unary,Op.intArith]⟩
 · cases hx;simp at h;subst h;exact ⟨_,.int _ _,fun w=>by simp [Op.unary,Op.intBits]⟩
 · cases hx;simp at h;subst h;exact ⟨_,.bool _,fun w=>by simp [Op.unary]⟩
 · simp at h
theorem A9 {φ:Ph} {x:AV} {y n:Nat} (h:A5 x y=some n) {x':Value} (hx:VR φ x x') {y':Nat} (hy:y≤y') (code:BoundsCode):
 (∀w,(Instr.sliceBound x' y' code).run E.P w= .ok n w)∧n≤y:=by
 unfold A5 at h
 split at h
 · split at h
   · rename_i hc
     cases hx
     simp at h;subst h
     refine ⟨fun w=>?_,by omega⟩
     simp only[Instr.sliceBound,asIntOf,Sem.run_bind,Sem.run_pure,Result.andThen_ok]
     rw[if_pos (by omega)];rfl
   · simp at h
 · simp at h
def Tt (φ:Ph):Option AV→Option Value→Prop
 | none,none=>True
 | some x,some y=>VR φ x y
 | _,_=>False
theorem Iq (isS:Bool) (len EH:Nat) (Tu Qc Lb:Option Value):Instr.sliceBounds isS len EH Tu Qc Lb=(do
 let m←(match Lb with | some v=>Instr.sliceBound v EH (if isS then .slice3Acap else .slice3Alen) | none=>pure EH:Sem Nat)
 let h←(match Qc,Lb with | some v,some _=>Instr.sliceBound v m .slice3B | some v,none=>Instr.sliceBound v m (if isS then .sliceAcap else .sliceAlen) | none,none=>pure len | none,some _=>stuck "Slice: max without high" :Sem Nat)
 let l←(match Tu with | some v=>Instr.sliceBound v h (if Lb.isSome then .slice3C else .sliceB) | none=>pure 0:Sem Nat)
 pure (l,h,m)):=by
 unfold Instr.sliceBounds
 cases Lb<;>cases Qc<;>cases Tu<;>rfl
theorem tL {φ:Ph} {len cap:Nat} {lo hi mx:Option AV} {l h m:Nat} (e:tJ len cap lo hi mx=some (l,h,m)) {Tu Qc Lb:Option Value}
 (hlo:Tt φ lo Tu) (hhi:Tt φ hi Qc) (hmx:Tt φ mx Lb) {EH:Nat} (hc:cap≤EH) (isS:Bool) (hlen:len≤cap):
 (∀w,(Instr.sliceBounds isS len EH Tu Qc Lb).run E.P w= .ok (l,h,if mx.isNone then EH else m) w)∧l≤h∧h≤m∧m≤cap∧(mx=none→m=cap):=by
 unfold tJ at e
 split at e
 · simp at e
 rename_i m0 hm0
 have hm:(∀w,(match Lb with | some v=>Instr.sliceBound v EH (if isS then .slice3Acap else .slice3Alen) | none=>pure EH:Sem Nat).run E.P w= .ok (if mx.isNone then EH else m0) w)∧m0≤cap∧(mx=none→m0=cap):=by
  cases mx with
  | none=>
   cases Lb with
   | some _=>exact hmx.elim
   | none=>simp at hm0;subst hm0;exact ⟨fun w=>rfl,Nat.le_refl _,fun _=>rfl⟩
  | some v=>
   cases Lb with
   | none=>exact hmx.elim
   | some v'=>
    have:=fun code=>A9 (E:=E) hm0 (show VR φ v v' from hmx) hc code
    exact ⟨(this _).1,(this .index).2,fun e=>by simp at e⟩
 split at e
 · simp at e
 rename_i h0 hh0
 have aqT:m0≤(if mx.isNone then EH else m0):=by split<;>omega
 have hh:(∀w,(match Qc,Lb with | some v,some _=>Instr.sliceBound v (if mx.isNone then EH else m0) .slice3B | some v,none=>Instr.sliceBound v (if mx.isNone then EH else m0) (if isS then .sliceAcap else .sliceAlen) | none,none=>pure len | none,some _=>stuck "Slice: max without high" :Sem Nat).run E.P w= .ok h0 w)∧h0≤m0:=by
  cases hi with
  | none=>
   cases Qc with
   | some _=>exact hhi.elim
   | none=>
    cases mx with
    | some _=>simp at hh0
    | none=>
     cases Lb with
     | some _=>exact hmx.elim
     | none=>simp at hh0;subst hh0;exact ⟨fun w=>rfl,by have:=hm.2.2 rfl;omega⟩
  | some v=>
   cases Qc with
   | none=>exact hhi.elim
   | some v'=>
    have:=fun code=>A9 (E:=E) hh0 (show VR φ v v' from hhi) aqT code
    cases Lb with
    | none=>exact ⟨(this _).1,(this .index).2⟩
    | some _=>exact ⟨(this _).1,(this .index).2⟩
 split at e
 · simp at e
 rename_i l0 hl0
 simp at e
 obtain ⟨rfl,rfl,rfl⟩:=e
 have hl:(∀w,(match Tu with | some v=>Instr.sliceBound v h0 (if Lb.isSome then .slice3C else .sliceB) | none=>pure 0:Sem Nat).run E.P w= .ok l0 w)∧l0≤h0:=by
  cases lo with
  | none=>
   cases Tu with
   | some _=>exact hlo.elim
   | none=>simp at hl0;subst hl0;exact ⟨fun w=>rfl,by omega⟩
  | some v=>
   cases Tu with
   | none=>exact hlo.elim
   | some v'=>
    have:=fun code=>A9 (E:=E) hl0 (show VR φ v v' from hlo) (Nat.le_refl _) code
    exact ⟨(this _).1,(this .index).2⟩
 refine ⟨fun w=>?_,hl.2,hh.2,hm.2.1,hm.2.2⟩
 rw[Iq,Sem.run_bind,hm.1 w,Result.andThen_ok,Sem.run_bind,hh.1 w,Result.andThen_ok,Sem.run_bind,hl.1 w]
 rfl
theorem zE (b o n:Nat):(⟨b,o,none⟩:Addr).add n=⟨b,o+n,none⟩:=Addr.add_mid b o n
theorem Tv {φ:Ph} {t:TypeId} {x v:AV} {lo hi mx:Option AV} (e:iY E t x lo hi mx=some v) {x':Value} {Tu Qc Lb:Option Value}
 (hx:VR φ x x') (hlo:Tt φ lo Tu) (hhi:Tt φ hi Qc) (hmx:Tt φ mx Lb):∃v',VR φ v v'∧∀w,(Instr.sliceAt t x' Tu Qc Lb).run E.P w= .ok v' w:=by
 unfold iY at e
 split at e
 ·
  rename_i n elem i o hu
  cases hx with
  | @ptr _ l _ hφ=>
  split at e
  · rename_i l0 h0 m0 size hb hs
    simp at e;subst e
    obtain ⟨hr,h1,h2,h3,h4⟩:=tL (E:=E) hb hlo hhi hmx (Nat.le_refl n) false (Nat.le_refl n)
    have hm:(if mx.isNone then n else m0)=m0:=by
     cases mx with
     | none=>simp [h4 rfl]
     | some _=>rfl
    rw[hm] at hr
    refine ⟨_,.slice (if m0=l0 then o else o+l0*size) (h0 - l0) (m0 - l0) false hφ,fun w=>?_⟩
    simp only[Instr.sliceAt,Sem.run_bind,run_underlying hu,Result.andThen_ok,Instr.sureAddr,Sem.run_pure,hr w,fZ hs,jQ,Bool.false_eq_true,if_false]
    by_cases hml:m0=l0
    · simp [hml]
    · simp only[hml,if_false,zE];rw[Nat.add_assoc]
  · simp at e
 ·
  rename_i s hu
  split at e
  · rename_i l0 h0 m0 hb
    simp at e;subst e
    generalize hs:s=s0 at hx hb
    cases hx with
    | str s'=>
    subst hs
    have e1:s'.size=s'.data.toList.length:=by cases s';rfl
    cases Lb with
    | some _=>exact hmx.elim
    | none=>
    obtain ⟨hr,h1,h2,h3,h4⟩:=tL (E:=E) (mx:=none) (Lb:=none) hb hlo hhi trivial (Nat.le_refl _) false (Nat.le_refl _)
    refine ⟨.string (s'.extract l0 h0),?_,fun w=>?_⟩
    · have:=VR.str (φ:=φ) (s'.extract l0 h0)
      have e2:(s'.extract l0 h0).data.toList=(s'.data.toList.drop l0).take (h0 - l0):=by
       exact Lib.extract_data s' l0 h0
      rw[e2] at this;exact this
    · have hr':=hr w
      rw[←e1] at hr'
      simp only[Instr.sliceAt,Instr.slice,Sem.run_bind,run_underlying hu,Result.andThen_ok,Option.isSome_none,Bool.false_eq_true,if_false,hr',Sem.run_pure]
  · simp at e
 ·
  rename_i elem hu
  cases hx
  split at e
  · rename_i r size hb hs
    simp at e;subst e
    obtain ⟨l0,h0,m0⟩:=r
    obtain ⟨hr,h1,h2,h3,h4⟩:=tL (E:=E) hb hlo hhi hmx (Nat.le_refl _) true (Nat.le_refl _)
    have hm:(if mx.isNone then 0 else m0)=0:=by split<;>omega
    rw[hm] at hr
    refine ⟨_,.aw,fun w=>?_⟩
    obtain rfl:l0=0:=by omega
    obtain rfl:h0=0:=by omega
    simp only[Instr.sliceAt,Instr.slice,Sem.run_bind,run_underlying hu,Result.andThen_ok,hr w,fZ hs,if_true,Sem.run_pure]
  · simp at e
 · rename_i elem i o len cap op hu
   cases hx with
   | @slice _ l _ _ _ _ hφ=>
   split at e
   · rename_i hlc
     split at e
     · rename_i l0 h0 m0 size hb hs
       have hcc:cap≤jQ op cap l.lr:=by unfold jQ;split<;>omega
       obtain ⟨hr,h1,h2,h3,h4⟩:=tL (E:=E) hb hlo hhi hmx hcc true hlc
       have run:∀w,(Instr.sliceAt t (.slice (some ⟨l.fB,l.off+o,none⟩) len (jQ op cap l.lr)) Tu Qc Lb).run E.P w=
        .ok (.slice (if (if mx.isNone then jQ op cap l.lr else m0)=l0 then some ⟨l.fB,l.off+o,none⟩ else some ⟨l.fB,l.off+o+l0*size,none⟩) (h0 - l0) ((if mx.isNone then jQ op cap l.lr else m0) - l0)) w:=fun w=>by
        simp only[Instr.sliceAt,Instr.slice,Sem.run_bind,run_underlying hu,Result.andThen_ok,hr w,fZ hs,Sem.run_pure,Option.map_some,zE]
       split at e
       · rename_i hml
         split at e
         · rename_i uU
           have hmn:mx.isNone=true:=by simp at uU;simpa using uU.2
           simp only[Option.some.injEq] at e;subst e
           have e0:h0 - l0=0:=by omega
           rw[e0] at run
           by_cases hq:(if mx.isNone then jQ op cap l.lr else m0)=l0
           · exact ⟨_,.fJ _ _,fun w=>by rw[run w,if_pos hq]⟩
           · exact ⟨_,.fJ _ _,fun w=>by rw[run w,if_neg hq]⟩
         · rename_i uU
           simp at e;subst e
           have hcm:(if mx.isNone then jQ op cap l.lr else m0)=m0:=by
            cases hmn:mx with
            | none=>subst hmn;simp at uU;subst uU;simp [jQ,h4 rfl]
            | some _=>rfl
           rw[hcm,if_pos hml] at run
           exact ⟨_,.slice o (h0 - l0) (m0 - l0) false hφ,run⟩
       · rename_i hml
         simp only[Option.some.injEq] at e;subst e
         have gX:¬(if mx.isNone then jQ op cap l.lr else m0)=l0:=by
          split
          · rename_i hmn;have:=h4 (by simpa using hmn);omega
          · exact hml
         rw[if_neg gX,Nat.add_assoc] at run
         refine ⟨_,?_,run⟩
         have:=VR.slice (φ:=φ) (o+l0*size) (h0 - l0) (m0 - l0) (op&&mx.isNone) hφ
         have e2:jQ (op&&mx.isNone) (m0 - l0) l.lr=(if mx.isNone then jQ op cap l.lr else m0) - l0:=by
          cases hmn:mx with
          | none=>
           have h5:=h4 hmn
           cases op with
           | true=>simp [jQ];omega
           | false=>simp [jQ];omega
          | some _=>simp [jQ]
         rw[e2] at this;exact this
     · simp at e
   · simp at e
 · simp at e
end Go.Ab
end
section
namespace Go.Ab
variable {E:Env}
theorem uW:∀(l:List Value) (k off:Nat) (C:Array Value),(l.zipIdx k).foldl (fun cs (x:Value×Nat)=>cs.setIfInBounds (off+x.2) x.1) C=nj C (off+k) l
 | [],_,_,_=>rfl
 | v::vs,k,off,C=>by
  rw[List.zipIdx_cons,List.foldl_cons,uW vs (k+1) off,nj,Nat.add_assoc]
theorem LR.setFrom {φ:Ph}:∀{vs:List AV} {yk:List Value} (_:LR φ vs yk) {cs:List AV} {C:Array Value} (_:LR φ cs C.toList) (o:Nat),LR φ (Ab.setFrom cs o vs) (nj C o yk).toList
 | [],yk,hv,cs,C,hc,o=>by rw[hv.jJ];exact hc
 | v::vs,yk,hv,cs,C,hc,o=>by
  obtain ⟨y,ys,rfl,hy,Af⟩:=hv.dp
  rw[Ab.setFrom,nj]
  refine LR.setFrom Af ?_ (o+1)
  rw[Array.toList_setIfInBounds]
  exact hc.set hy o
def PR (φ:Ph) (ps:List (Nat×AV)) (qs:List (Nat×Value)):Prop:=ps.length=qs.length∧∀(i:Nat) (x:Nat×AV) (y:Nat×Value),ps[i]? =some x→qs[i]? =some y→x.1=y.1∧VR φ x.2 y.2
theorem PR.dp {φ:Ph} {x:Nat×AV} {xs:List (Nat×AV)} {ys:List (Nat×Value)} (h:PR φ (x::xs) ys):∃y Ep,ys=y::Ep∧(x.1=y.1∧VR φ x.2 y.2)∧PR φ xs Ep:=by
 obtain ⟨hl,hv⟩:=h
 cases ys with
 | nil=>simp at hl
 | cons y ys=>exact ⟨y,ys,rfl,hv 0 x y (by simp) (by simp),by simpa using hl,fun i a b ha hb=>hv (i+1) a b (by simpa using ha) (by simpa using hb)⟩
theorem EI {φ:Ph} (hg:GL E φ) {ts:List AV} {a:Act} (ht:LR φ ts a.tmps.toList):∀{l:List (Nat×Operand)} {r:List (Nat×AV)} (_:oV E ts l=some r),PR φ r (l.map fun (i,x)=>(i,a.eval x))
 | [],r,h=>by simp [oV] at h;subst h;exact ⟨rfl,fun i x y hx _=>by simp at hx⟩
 | (i,o)::rest,r,h=>by
  simp only[oV] at h
  cases hv:gn E ts o with
  | none=>simp [hv] at h
  | some v=>
   simp only[hv] at h
   cases hr:oV E ts rest with
   | none=>simp [hr] at h
   | some l=>
    simp only[hr,Option.some.injEq] at h;subst h
    obtain ⟨h1,h2⟩:=EI hg ht hr
    refine ⟨by simpa using h1,fun j x y hx hy=>?_⟩
    cases j with
    | zero=>simp at hx hy;subst hx;subst hy;exact ⟨rfl,rp hg ht hv⟩
    | succ j=>simp at hx;exact h2 j x y hx (by simpa using hy)
theorem zF {φ:Ph} {place:Nat→Option (Nat×Nat)}:∀{ps:List (Nat×AV)} {qs:List (Nat×Value)} (_:PR φ ps qs) {cs lj:List AV} {C:Array Value} (_:LR φ cs C.toList) (_:Av place cs ps=some lj),
 ∃C',Instr.fill place C qs=some C'∧LR φ lj C'.toList
 | [],qs,hp,cs,lj,C,hc,h=>by
  cases qs with
  | nil=>simp [Av] at h;subst h;exact ⟨C,rfl,hc⟩
  | cons q qs=>simp [PR] at hp
 | (i,v)::rest,qs,hp,cs,lj,C,hc,h=>by
  obtain ⟨⟨j,v'⟩,qs',rfl,⟨he,hv⟩,sJ⟩:=hp.dp
  simp only at he hv;subst he
  simp only[Av] at h
  simp only[Instr.fill]
  cases Yh:place i with
  | none=>simp [Yh] at h
  | some x=>
   obtain ⟨off,size⟩:=x
   simp only[Yh] at h ⊢
   split at h
   · rename_i Tw
     have aaM:=hv.cells
     have hl:v'.cells.size=size:=by have:=aaM.1;simp at this;omega
     have hCs:C.size=cs.length:=by have:=hc.1;simp at this;omega
     have K5:(decide (v'.cells.size≠size)||decide (off+v'.cells.size>C.size))=false:=by
      simp only[Bool.or_eq_false_iff,decide_eq_false_iff_not];omega
     simp only[K5,Bool.false_eq_true,if_false]
     have amS:(v'.cells.zipIdx.foldl (fun cs (x:Value×Nat)=>cs.setIfInBounds (off+x.2) x.1) C)=nj C off v'.cells.toList:=by
      rw[←Array.foldl_toList]
      have:=uW v'.cells.toList 0 off C
      simpa using this
     rw[amS]
     exact zF sJ (LR.setFrom aaM hc off) h
   · simp at h
theorem Tx {φ:Ph} {t:TypeId} {ps:List (Nat×AV)} {v:AV} (h:Tj E t ps=some v) {qs:Array (Nat×Value)} (hp:PR φ ps qs.toList):
 ∃v',VR φ v v'∧∀w,(Instr.build t qs).run E.P w= .ok v' w:=by
 unfold Tj at h
 split at h
 · simp at h
 rename_i z hz
 obtain ⟨z',Er,mj⟩:=kQ hz
 split at h
 · rename_i fs hu
   split at h
   · simp at h
   rename_i pl Yh
   split at h
   · rename_i cs hf
     simp at h;subst h
     have aje:∀w,(fs.mapM fun f=>do pure (f.offset,←sizeOf f.type):Sem (Array (Nat×Nat))).run E.P w= .ok pl.toArray w:=by
      intro w
      have key:∀(l:List Field) (r:List (Nat×Nat)),iX (fun f=>match dm E f.type with | some n=>some (f.offset,n) | none=>none) l=some r→
       (l.mapM fun f=>do pure (f.offset,←sizeOf f.type):Sem (List (Nat×Nat))).run E.P w= .ok r w:=by
       intro l
       induction l with
       | nil=>intro r hr;simp [iX] at hr;subst hr;rfl
       | cons f l ih=>
        intro r hr
        simp only[iX] at hr
        cases hs:dm E f.type with
        | none=>simp [hs] at hr
        | some n=>
         simp only[hs] at hr
         cases hm:iX (fun f=>match dm E f.type with | some n=>some (f.offset,n) | none=>none) l with
         | none=>simp [hm] at hr
         | some ys=>
          simp only[hm,Option.some.injEq] at hr;subst hr
          simp only[List.mapM_cons,Sem.run_bind,fZ hs,Result.andThen_ok,Sem.run_pure,ih ys hm]
      have:=key fs.toList pl Yh
      have hh:(fs.mapM fun f=>do pure (f.offset,←sizeOf f.type):Sem (Array (Nat×Nat)))=(do pure (←(fs.toList.mapM fun f=>do pure (f.offset,←sizeOf f.type):Sem (List (Nat×Nat)))).toArray):=by
       rw[Array.mapM_eq_mapM_toList];rfl
      rw[hh,Sem.run_bind,this];rfl
     obtain ⟨C',F8,F9⟩:=zF (place:=(pl[·]?)) hp (cs:=z.cells) (C:=z'.cells) (Er φ).cells hf
     refine ⟨.agg C',by have:=VR.Yf F9;simpa using this,fun w=>?_⟩
     simp only[Instr.build,Sem.run_bind,mj,Result.andThen_ok,run_underlying hu,aje w]
     simp [F8]
   · simp at h
 · rename_i n elem hu
   split at h
   · simp at h
   rename_i n hn
   split at h
   · rename_i cs hf
     simp at h;subst h
     obtain ⟨C',F8,F9⟩:=zF (place:=fun i=>some (i*n,n)) hp (cs:=z.cells) (C:=z'.cells) (Er φ).cells hf
     refine ⟨.agg C',by have:=VR.Yf F9;simpa using this,fun w=>?_⟩
     simp [Instr.build,Sem.run_bind,mj,run_underlying hu,fZ hn,F8]
   · simp at h
 · simp at h
theorem Qs {φ:Ph}:∀{l:List AV} {x v:AV} (_:Tk x l=some v) {x':Value} (_:VR φ x x') {l':List Value} (_:LR φ l l'),∃v',VR φ v v'∧∀w,(l'.foldlM Builtin.max2 x').run E.P w= .ok v' w
 | [],x,v,h,x',hx,l',hl=>by
  rw[hl.jJ]
  cases x<;>simp [Tk] at h
  subst h;exact ⟨x',hx,fun w=>rfl⟩
 | y::ys,x,v,h,x',hx,l',hl=>by
  obtain ⟨y',Ep,rfl,hy,Af⟩:=hl.dp
  cases x<;>(try (simp [Tk] at h;done))
  cases y<;>(try (simp [Tk] at h;done))
  cases hx;cases hy
  simp only[Tk] at h
  obtain ⟨v',hv,hr⟩:=Qs h (.int _ _) Af
  refine ⟨v',hv,fun w=>?_⟩
  simp only[List.foldlM_cons,Builtin.max2,Sem.run_bind,Sem.run_pure,Result.andThen_ok,hr w]
theorem Qt {φ:Ph}:∀{l:List AV} {x v:AV} (_:Tn x l=some v) {x':Value} (_:VR φ x x') {l':List Value} (_:LR φ l l'),∃v',VR φ v v'∧∀w,(l'.foldlM Builtin.min2 x').run E.P w= .ok v' w
 | [],x,v,h,x',hx,l',hl=>by
  rw[hl.jJ]
  cases x<;>simp [Tn] at h
  subst h;exact ⟨x',hx,fun w=>rfl⟩
 | y::ys,x,v,h,x',hx,l',hl=>by
  obtain ⟨y',Ep,rfl,hy,Af⟩:=hl.dp
  cases x<;>(try (simp [Tn] at h;done))
  cases y<;>(try (simp [Tn] at h;done))
  cases hx;cases hy
  simp only[Tn] at h
  obtain ⟨v',hv,hr⟩:=Qt h (.int _ _) Af
  refine ⟨v',hv,fun w=>?_⟩
  simp only[List.foldlM_cons,Builtin.min2,Sem.run_bind,Sem.run_pure,Result.andThen_ok,hr w]
theorem map_toArray (f:Operand→Value) (l:Array Operand):l.map f=(l.toList.map f).toArray:=by apply Array.ext';simp
def ah8 (E:Env):Prop:=∀f e,E.HF f=some e→∀vs r,e vs=some r→∀φ (yk:List Value),LR φ vs yk→
 ∃r',VR φ r r'∧∀w,(callFunc f yk.toArray).run E.P w= .ok (.value r') w
theorem gY {s:Sem Value} {v:Value} {P:Program} {w w':World} (h:s.run P w= .ok v w'):(do pure (.value (←s)):Sem Next).run P w= .ok (.value v) w':=by
 rw[Sem.run_bind,h];rfl
theorem NG {φ:Ph} (hg:GL E φ) {ts:List AV} {a:Act} (ht:LR φ ts a.tmps.toList) {o:Option Operand} {r:Option AV} (h:sC E ts o=some r):Tt φ r (o.map a.eval):=by
 cases o with
 | none=>simp [sC] at h;subst h;trivial
 | some o=>
  simp only[sC] at h
  split at h
  · rename_i v hv;simp at h;subst h;exact rp hg ht hv
  · simp at h
theorem yl {P:Program} {t:TypeId} {d:TypeDesc} (hu:P.underlying t=some d) (hd:∀m,d= .interface m→False) (v:Value) (xT:TypeId) (ok:Bool) (w:World):
 (Instr.typeAssert (.iface t v) xT t ok).run P w= .ok (if ok then .tuple #[v,.bool true] else v) w:=by
 rw[Instr.typeAssert,Sem.run_bind,run_underlying hu]
 cases d<;>first | (exact (hd _ rfl).elim) | (simp;done)
theorem G8 {P:Program} {t u:TypeId} {d:TypeDesc} (hu:P.underlying t=some d) (hd:∀m,d= .interface m→False) (v:Value) (xT:TypeId) (gX:u≠t) {z:Value} (w:World) (hz:(zeroValue t).run P w= .ok z w):
 (Instr.typeAssert (.iface u v) xT t true).run P w= .ok (.tuple #[z,.bool false]) w:=by
 rw[Instr.typeAssert,Sem.run_bind,run_underlying hu]
 cases d<;>first | (exact (hd _ rfl).elim) | (simp [gX,hz];done)
theorem Ir {P:Program} {t:TypeId} {d:TypeDesc} (hu:P.underlying t=some d) (hd:∀m,d= .interface m→False) (xT:TypeId) {z:Value} (w:World) (hz:(zeroValue t).run P w= .ok z w):
 (Instr.typeAssert .nilIface xT t true).run P w= .ok (.tuple #[z,.bool false]) w:=by
 rw[Instr.typeAssert,Sem.run_bind,run_underlying hu]
 cases d<;>first | (exact (hd _ rfl).elim) | (simp [hz];done)
set_option maxHeartbeats 1000000 in
theorem F_ (amT:ah8 E) {φ:Ph} (hg:GL E φ) {ts:List AV} {a:Act} (ht:LR φ ts a.tmps.toList) {o:Oper} {v:AV} (h:dY E ts o.op=some v):
 ∃v',VR φ v v'∧∀w,(execOp a.eval o).run E.P w= .ok (.value v') w:=by
 have ev:∀{x:Operand} {v:AV},gn E ts x=some v→VR φ v (a.eval x):=fun h=>rp hg ht h
 unfold execOp
 generalize o.op=op at h ⊢
 unfold dY at h
 split at h
 · exact ⟨_,ev h,fun w=>rfl⟩
 · exact ⟨_,ev h,fun w=>rfl⟩
 ·
  split at h
  · rename_i hc
    have:=ev hc
    generalize oD:a.eval _=cv at this
    cases this
    exact ⟨_,ev h,fun w=>by simp [oD,asBool]⟩
  · rename_i hc
    have:=ev hc
    generalize oD:a.eval _=cv at this
    cases this
    exact ⟨_,ev h,fun w=>by simp [oD,asBool]⟩
  · simp at h
 ·
  rename_i t parts
  split at h
  · rename_i ps hps
    have hp:=EI hg ht hps
    obtain ⟨v',hv,hr⟩:=Tx (φ:=φ) h (qs:=parts.map fun (i,x)=>(i,a.eval x)) (by simpa using hp)
    exact ⟨v',hv,fun w=>gY (hr w)⟩
  · simp at h
 ·
  split at h<;>(try (simp at h;done))
  all_goals
   rename_i hx
   have:=ev hx
   generalize oD:a.eval _=cv at this
   cases this
   simp only[Option.some.injEq] at h;subst h
   first
    | exact ⟨_,.ptr _ ‹_›,fun w=>by simp [oD]⟩
    | exact ⟨_,.map ‹_›,fun w=>by simp [oD]⟩
    | exact ⟨_,.slice _ _ _ _ ‹_›,fun w=>by simp [oD]⟩
    | exact ⟨_,.func _ _ _ _ _ ‹_› ‹_› ‹_› ‹_›,fun w=>by simp [oD]⟩
 ·
  split at h
  · rename_i hx hy
    obtain ⟨v',hv,hr⟩:=aaL h (ev hx) (ev hy)
    exact ⟨v',hv,fun w=>gY (hr w)⟩
  · simp at h
 ·
  split at h
  · rename_i hx
    obtain ⟨v',hv,hr⟩:=afA (E:=E) h (ev hx)
    exact ⟨v',hv,fun w=>gY (hr w)⟩
  · simp at h
 ·
  split at h
  · rename_i hs hd hx
    have:=ev hx
    generalize oD:a.eval _=cv at this
    cases this
    simp at h;subst h
    refine ⟨_,.int _ _,fun w=>gY ?_⟩
    simp [oD,convert,run_underlying hs,run_underlying hd,Conv.intToInt]
  · rename_i d s hs hd hx
    have:=ev hx
    generalize oD:a.eval _=cv at this
    simp at h;subst h
    generalize Ty:s=s0 at this
    cases this
    subst Ty
    refine ⟨_,.str _,fun w=>gY ?_⟩
    simp [oD,convert,run_underlying hs,run_underlying hd]
  · rename_i d k n hs hd hx
    have:=ev hx
    generalize oD:a.eval _=cv at this
    cases this
    unfold V6 at h
    split at h
    · rename_i h0
      simp at h;subst h
      have he:Utf8.encode n=⟨#[UInt8.ofNat n.toNat]⟩:=by
       have hv:Utf8.valid n=true:=by simp [Utf8.valid];omega
       have h1:n.toNat<0x80:=by omega
       simp [Utf8.encode,hv,h1]
      refine ⟨.string ⟨#[UInt8.ofNat n.toNat]⟩,.str ⟨#[UInt8.ofNat n.toNat]⟩,fun w=>gY ?_⟩
      rw[←he]
      cases d<;>simp [oD,convert,run_underlying hs,run_underlying hd,Conv.intToString]
    · simp at h
  · simp at h
 ·
  split at h
  · simp at h
  · rename_i d v0 hn hu hx
    simp at h;subst h
    refine ⟨_,.iface _ _ _ (ev hx),fun w=>gY ?_⟩
    rw[Instr.makeInterface,Sem.run_bind,run_underlying hu]
    cases d<;>first | (exact (hn _ rfl).elim) | rfl
  · simp at h
 ·
  rename_i f first captured
  split at h
  · rename_i ha hb
    simp at h;subst h
    have h1:=kP hg ht ha
    have h2:=kP hg ht hb
    refine ⟨.func (.func f) (first.map a.eval) (captured.map a.eval),?_,fun w=>gY rfl⟩
    rw[map_toArray,map_toArray]
    exact VR.aaC f h1 h2
  · simp at h
 ·
  split at h
  · rename_i hx hl hh hm
    obtain ⟨v',hv,hr⟩:=Tv h (ev hx) (NG hg ht hl) (NG hg ht hh) (NG hg ht hm)
    exact ⟨v',hv,fun w=>gY (hr w)⟩
  · simp at h
 ·
  split at h
  · rename_i fd i o0 hf hx
    split at h
    · rename_i n hn
      split at h
      · simp at h
      · rename_i Qd
        simp at h;subst h
        have:=ev hx
        generalize oD:a.eval _=cv at this
        cases this with
        | @ptr _ l _ hφ=>
        refine ⟨_,.ptr _ hφ,fun w=>gY ?_⟩
        unfold Ck at hf
        split at hf
        · rename_i fs hu
          simp [oD,Instr.fieldAt,run_underlying hu,hf,Instr.sureAddr,fieldPlace,fZ hn,Qd,zE,Nat.add_assoc]
        · simp at hf
    · simp at h
  · simp at h
 ·
  split at h
  · rename_i fd cs hf hx
    have:=ev hx
    generalize oD:a.eval _=cv at this
    obtain ⟨lj,rfl,F9⟩:=this.mK
    obtain ⟨v',hv,hr⟩:=su F9 h
    refine ⟨v',hv,fun w=>gY ?_⟩
    unfold Ck at hf
    split at hf
    · rename_i fs hu
      have:=hr w
      simp [oD,Instr.field,run_underlying hu,hf,asAgg] at this ⊢
      exact this
    · simp at hf
  · simp at h
 ·
  split at h
  · rename_i len elem i o0 k n hu hx hi
    split at h
    · rename_i size hs
      split at h
      · rename_i hb
        simp at h;subst h
        have h1:=ev hx
        have h2:=ev hi
        generalize oD:a.eval _=cv at h1
        generalize hcw:a.eval _=cw at h2
        cases h1 with
        | @ptr _ l _ hφ=>
        cases h2
        refine ⟨_,.ptr _ hφ,fun w=>gY ?_⟩
        simp [oD,hcw,Instr.indexAt,asIntOf,run_underlying hu,Instr.sureAddr,hb,fZ hs,zE,Nat.add_assoc]
      · simp at h
    · simp at h
  · rename_i elem i o0 len cap op k n hu hx hi
    split at h
    · rename_i size hs
      split at h
      · rename_i hb
        simp at h;subst h
        have h1:=ev hx
        have h2:=ev hi
        generalize oD:a.eval _=cv at h1
        generalize hcw:a.eval _=cw at h2
        cases h1 with
        | @slice _ l _ _ _ _ hφ=>
        cases h2
        refine ⟨_,.ptr _ hφ,fun w=>gY ?_⟩
        simp [oD,hcw,Instr.indexAt,asIntOf,run_underlying hu,hb,fZ hs,zE,Nat.add_assoc]
      · simp at h
    · simp at h
  · simp at h
 ·
  split at h
  · rename_i len elem cs k n hu hx hi
    split at h
    · rename_i size hs
      split at h
      · rename_i hb
        have h1:=ev hx
        have h2:=ev hi
        generalize oD:a.eval _=cv at h1
        generalize hcw:a.eval _=cw at h2
        obtain ⟨lj,rfl,F9⟩:=h1.mK
        cases h2
        obtain ⟨v',hv,hr⟩:=su F9 h
        refine ⟨v',hv,fun w=>gY ?_⟩
        have:=hr w
        simp [oD,hcw,Instr.index,asIntOf,run_underlying hu,hb,fZ hs] at this ⊢
        exact this
      · simp at h
    · simp at h
  · rename_i s k n hu hx hi
    split at h
    · rename_i hn
      split at h
      · rename_i b hb
        simp at h;subst h
        have h1:=ev hx
        have h2:=ev hi
        generalize oD:a.eval _=cv at h1
        generalize hcw:a.eval _=cw at h2
        generalize Ty:s=s0 at h1
        cases h1 with
        | str s'=>
        subst Ty
        cases h2
        refine ⟨_,.int _ _,fun w=>gY ?_⟩
        have hb':s'[n.toNat]? =some b:=by
         have:s'.data[n.toNat]? =some b:=by simpa using hb
         rw[←this];rfl
        simp [oD,hcw,Instr.index,asIntOf,run_underlying hu,hn,hb']
      · simp at h
    · simp at h
  · simp at h
 ·
  split at h
  · rename_i vs hx
    have h1:=ev hx
    generalize oD:a.eval _=cv at h1
    obtain ⟨yk,rfl,F9⟩:=h1.L_
    obtain ⟨y,hy,hv⟩:=F9.get h
    refine ⟨y,hv,fun w=>gY ?_⟩
    simp at hy
    simp [oD,Instr.extract,hy]
  · simp at h
 ·
  split at h
  · simp at h
  · rename_i d t v0 hn hu hx
    have h1:=ev hx
    generalize oD:a.eval _=cv at h1
    cases h1 with
    | iface _ _ v1 hv1=>
    split at h
    · rename_i hta
      subst hta
      simp at h;subst h
      split
      · rename_i qk
        refine ⟨.tuple #[v1,.bool true],VR.tuple' (lj:=[v1,.bool true]) (.cons hv1 (.cons (.bool true) (.nil φ))),fun w=>gY ?_⟩
        rw[oD,yl hu hn,qk];rfl
      · rename_i qk
        refine ⟨v1,hv1,fun w=>gY ?_⟩
        rw[oD,yl hu hn];simp [qk]
    · rename_i hta
      split at h
      · rename_i qk
        split at h
        · rename_i z hz
          simp at h;subst h
          obtain ⟨z',Er,mj⟩:=kQ hz
          refine ⟨.tuple #[z',.bool false],VR.tuple' (lj:=[z',.bool false]) (.cons (Er φ) (.cons (.bool false) (.nil φ))),fun w=>gY ?_⟩
          rw[oD,qk];exact G8 hu hn _ _ hta w (mj w)
        · simp at h
      · simp at h
  · rename_i d hn hu hx
    have h1:=ev hx
    generalize oD:a.eval _=cv at h1
    cases h1
    split at h
    · rename_i qk
      split at h
      · rename_i z hz
        simp at h;subst h
        obtain ⟨z',Er,mj⟩:=kQ hz
        refine ⟨.tuple #[z',.bool false],VR.tuple' (lj:=[z',.bool false]) (.cons (Er φ) (.cons (.bool false) (.nil φ))),fun w=>gY ?_⟩
        rw[oD,qk];exact Ir hu hn _ w (mj w)
      · simp at h
    · simp at h
  · simp at h
 ·
  split at h
  · rename_i t v0 htp Qu
    have hl:=kP hg ht Qu
    obtain ⟨y,ys,Af,hy,NH⟩:=hl.dp
    rw[NH.jJ] at Af
    have Is:∀(args:Array Operand),args.toList.map a.eval=[y]→args.map a.eval= #[y]:=fun args e=>by rw[map_toArray,e]
    have h0:=Is _ Af
    split at h<;>(try (simp at h;done))
    all_goals
     rename_i hu
     simp only[Option.some.injEq] at h;subst h
    · generalize Ty:AV.str _=s0 at hy
      cases hy<;>cases Ty
      rename_i s'
      refine ⟨_,.int _ _,fun w=>?_⟩
      simp [resolve,invoke,builtin,h0,Builtin.len_,htp,run_underlying hu,goInt]
      try rfl
    · refine ⟨_,.int _ _,fun w=>?_⟩
      simp [resolve,invoke,builtin,h0,Builtin.len_,htp,run_underlying hu,goInt]
    · cases hy
      refine ⟨_,.int _ _,fun w=>?_⟩
      simp [resolve,invoke,builtin,h0,Builtin.len_,htp,run_underlying hu,goInt]
    · cases hy
      refine ⟨_,.int _ _,fun w=>?_⟩
      simp [resolve,invoke,builtin,h0,Builtin.len_,htp,run_underlying hu,goInt]
    · cases hy
      refine ⟨_,.int _ _,fun w=>?_⟩
      simp [resolve,invoke,builtin,h0,Builtin.len_,htp,run_underlying hu,goInt]
    · cases hy
      refine ⟨_,.int _ _,fun w=>?_⟩
      simp [resolve,invoke,builtin,h0,Builtin.len_,htp,run_underlying hu,goInt]
  · simp at h
 ·
  split at h
  · rename_i t v0 htp Qu
    have hl:=kP hg ht Qu
    obtain ⟨y,ys,Af,hy,NH⟩:=hl.dp
    rw[NH.jJ] at Af
    have Is:∀(args:Array Operand),args.toList.map a.eval=[y]→args.map a.eval= #[y]:=fun args e=>by rw[map_toArray,e]
    have h0:=Is _ Af
    split at h<;>(try (simp at h;done))
    all_goals
     rename_i hu
     simp only[Option.some.injEq] at h;subst h
    · refine ⟨_,.int _ _,fun w=>?_⟩
      simp [resolve,invoke,builtin,h0,Builtin.cap_,htp,run_underlying hu,goInt]
    · cases hy
      refine ⟨_,.int _ _,fun w=>?_⟩
      simp [resolve,invoke,builtin,h0,Builtin.cap_,htp,run_underlying hu,goInt]
    · cases hy
      refine ⟨_,.int _ _,fun w=>?_⟩
      simp [resolve,invoke,builtin,h0,Builtin.cap_,htp,run_underlying hu,goInt,jQ]
  · simp at h
 ·
  rename_i args _
  split at h
  · rename_i x rest Qu
    have hl:=kP hg ht Qu
    obtain ⟨y,ys,Af,hy,sJ⟩:=hl.dp
    obtain ⟨v',hv,hr⟩:=Qs (E:=E) h hy sJ
    refine ⟨v',hv,fun w=>?_⟩
    have h0:args.map a.eval=(y::ys).toArray:=by rw[map_toArray,Af]
    have:=hr w
    simp [resolve,invoke,builtin,h0,Builtin.max_,this]
  · simp at h
 ·
  rename_i args _
  split at h
  · rename_i x rest Qu
    have hl:=kP hg ht Qu
    obtain ⟨y,ys,Af,hy,sJ⟩:=hl.dp
    obtain ⟨v',hv,hr⟩:=Qt (E:=E) h hy sJ
    refine ⟨v',hv,fun w=>?_⟩
    have h0:args.map a.eval=(y::ys).toArray:=by rw[map_toArray,Af]
    have:=hr w
    simp [resolve,invoke,builtin,h0,Builtin.min_,this]
  · simp at h
 ·
  rename_i f args _
  split at h
  · rename_i e vs he Qu
    have hl:=kP hg ht Qu
    obtain ⟨r',hr,jP⟩:=amT f e he vs v h φ _ hl
    refine ⟨r',hr,fun w=>?_⟩
    have:=jP w
    rw[←map_toArray] at this
    simpa [resolve,Deferred.ofValue,invoke,Act.eval] using this
  · simp at h
 · simp at h
end Go.Ab
end
section
namespace Go.Ab
variable {E:Env}
theorem NI {P:Program} {t:TypeId} {k:IntKind} (hu:P.underlying t=some (.int k)) (b:Bool) (n:Nat) (v:Value) (w:World):
 (Instr.checkKey b (n+1) t v).run P w= .ok () w:=by
 unfold Instr.checkKey
 rw[Sem.run_bind,run_underlying hu]
 rfl
theorem NJ {P:Program} {t:TypeId} (hu:P.underlying t=some .string) (b:Bool) (n:Nat) (v:Value) (w:World):
 (Instr.checkKey b (n+1) t v).run P w= .ok () w:=by
 unfold Instr.checkKey
 rw[Sem.run_bind,run_underlying hu]
 rfl
theorem tM {φ:Ph} {t:TypeId} {d:TypeDesc} {k:AV} (hu:E.P.underlying t=some d) (hk:mI E (some d) k=true) {k':Value} (h:VR φ k k') (b:Bool) (n:Nat) (w:World):
 (Instr.checkKey b (n+2) t k').run E.P w= .ok () w:=by
 unfold mI at hk
 split at hk
 · rename_i fs xs hd
   cases hd
   obtain ⟨HI,rfl,HK⟩:=h.mK
   unfold Instr.checkKey
   rw[Sem.run_bind,run_underlying hu]
   simp only[Result.andThen_ok]
   have key:∀l:List Field,(l.all fun f=>match E.P.underlying f.type,nG E f.type xs f.offset with
    | some (.int _),some (.int _ _)=>true
    | some .string,some (.str _)=>true
    | _,_=>false)=true→
    (forIn (m:=Sem) l PUnit.unit fun f (_:PUnit)=>if f.name≠ "_" then (do let x←part f.type HI f.offset;Instr.checkKey b (n+1) f.type x;pure (ForInStep.yield PUnit.unit)) else pure (ForInStep.yield PUnit.unit)).run E.P w= .ok PUnit.unit w:=by
    intro l
    induction l with
    | nil=>intro _;rfl
    | cons f l ih=>
     intro ha
     rw[List.all_cons,Bool.and_eq_true] at ha
     obtain ⟨hf,hl⟩:=ha
     have h2:=ih hl
     split at hf
     · rename_i ki kj z e1 e2
       obtain ⟨v',_,hr⟩:=su HK e2
       rw[Array.toArray_toList] at hr
       simp only[List.forIn_cons,Sem.run_bind]
       split
       · simp only[Sem.run_bind,hr,Result.andThen_ok,NI e1,Sem.run_pure,h2]
       · simp only[Sem.run_pure,Result.andThen_ok,h2]
     · rename_i z e1 e2
       obtain ⟨v',_,hr⟩:=su HK e2
       rw[Array.toArray_toList] at hr
       simp only[List.forIn_cons,Sem.run_bind]
       split
       · simp only[Sem.run_bind,hr,Result.andThen_ok,NJ e1,Sem.run_pure,h2]
       · simp only[Sem.run_pure,Result.andThen_ok,h2]
     · cases hf
   have:=key fs.toList hk
   rw[Array.forIn_toList] at this
   first | exact this | (simp only[Sem.run_bind,this];rfl)
 · cases hk
theorem EJ {φ:Ph}:∀{xs ys:List AV} {HI Ep:List Value},sD xs ys=true→LR φ xs HI→LR φ ys Ep→Ep=HI∧(Ep.zip HI).all (fun (x,y)=>Instr.sameBits 9999 x y)=true
 | [],[],HI,Ep,_,h,h'=>by rw[h.jJ,h'.jJ];exact ⟨rfl,rfl⟩
 | .int k a::xs,.int j b::ys,HI,Ep,e,h,h'=>by
  obtain ⟨x,xs2,rfl,hx,HK⟩:=h.dp
  obtain ⟨y,ys2,rfl,hy,Af⟩:=h'.dp
  simp only[sD,Bool.and_eq_true,decide_eq_true_eq] at e
  obtain ⟨⟨rfl,rfl⟩,e⟩:=e
  cases hx;cases hy
  obtain ⟨h1,h2⟩:=EJ e HK Af
  subst h1
  refine ⟨rfl,?_⟩
  rw[List.zip_cons_cons,List.all_cons,h2,Bool.and_true]
  simp [Instr.sameBits]
 | .str a::xs,.str b::ys,HI,Ep,e,h,h'=>by
  obtain ⟨x,xs2,rfl,hx,HK⟩:=h.dp
  obtain ⟨y,ys2,rfl,hy,Af⟩:=h'.dp
  simp only[sD,Bool.and_eq_true,beq_iff_eq] at e
  obtain ⟨rfl,e⟩:=e
  obtain ⟨h1,h2⟩:=EJ e HK Af
  subst h1
  generalize hq:AV.str a=q at hx hy
  have hxy:y=x:=by
   cases hx with
   | str s1=>
    generalize hr:AV.str s1.data.toList=r at hy
    cases hy with
    | str s2=>
     injection hr with hr
     have:s1.data=s2.data:=Array.toList_inj.1 hr
     cases s1;cases s2;cases this;rfl
    | _=>cases hr
   | _=>cases hq
  subst hxy
  refine ⟨rfl,?_⟩
  rw[List.zip_cons_cons,List.all_cons,h2,Bool.and_true]
  cases hx with
  | str s1=>
   show (s1==s1)=true
   cases s1 with
   | mk d=>show (d==d)=true;simp
  | _=>cases hq
theorem NK {φ:Ph} {xs ys:List AV} (e:sD xs ys=true) {k' j':Value} (h:VR φ (.agg xs) k') (h':VR φ (.agg ys) j'):Instr.sameBits 10000 j' k'=true∧j'=k':=by
 obtain ⟨a,rfl,ha⟩:=h.mK
 obtain ⟨b,rfl,hb⟩:=h'.mK
 obtain ⟨h1,h2⟩:=EJ e ha hb
 have Wc:b=a:=by cases b;cases a;simp at h1;subst h1;rfl
 subst Wc
 refine ⟨?_,rfl⟩
 rw[Instr.sameBits]
 simp only[beq_self_eq_true,Bool.true_and]
 exact h2
def afB (φ:Ph) (k j:AV):Prop:=∀{k' j':Value},VR φ k k'→VR φ j j'→Instr.sameBits 10000 j' k'=true∧j'=k'
theorem pR {φ:Ph} {key:TypeId} {k:AV} {k':Value} (h:VR φ k k'):∀{es:List kO} {jO:List MapEntry} (_:Qo φ es jO) {i:Nat} {r:Option (Nat×AV)} (_:findD E key k es i=some r),
 ∃r',(∀w,(Instr.findAsking key k' jO i).run E.P w= .ok r' w)∧(match r,r' with | none,none=>True | some (j,v),some (j',v')=>j=j'∧VR φ v v'∧i≤j∧∃e,es[j - i]? =some e∧afB φ k e.key | _,_=>False)
 | [],jO,he,i,r,e=>by
  cases jO with
  | nil=>simp [findD] at e;subst e;exact ⟨none,fun w=>rfl,trivial⟩
  | cons _ _=>simp [Qo] at he
 | x::es,jO,he,i,r,e=>by
  obtain ⟨hl,hv⟩:=he
  cases jO with
  | nil=>simp at hl
  | cons y ys=>
   have hx:=hv 0 x y (by simp) (by simp)
   simp only[findD] at e
   split at e
   · rename_i heq
     split at e
     · rename_i zs hz _
       split at e
       · rename_i hs
         simp at e;subst e
         refine ⟨some (i,y.val),fun w=>?_,rfl,hx.val,Nat.le_refl _,x,by simp,?_⟩
         · have q:=sI 16 9984 key _ _ true _ _ heq h hx.key w
           simp only[Instr.findAsking,Sem.run_bind,Op.equal]
           rw[show Op.maxDepth=9984+16 from rfl,q]
           rfl
         · intro a b ha hb
           rw[hz] at hb
           exact NK hs ha hb
       · cases e
     · cases e
   · rename_i heq
     obtain ⟨r',h1,h2⟩:=pR h (es:=es) (jO:=ys) ⟨by simpa using hl,fun i a b p q=>hv (i+1) a b (by simpa using p) (by simpa using q)⟩ e
     refine ⟨r',fun w=>?_,?_⟩
     · have q:=sI 16 9984 key _ _ false _ _ heq h hx.key w
       simp only[Instr.findAsking,Sem.run_bind,Op.equal]
       rw[show Op.maxDepth=9984+16 from rfl,q]
       exact h1 w
     · cases r with
       | none=>cases r' with
        | none=>trivial
        | some _=>exact h2
       | some p=>
        obtain ⟨j,v⟩:=p
        cases r' with
        | none=>exact h2
        | some q=>
         obtain ⟨j',v'⟩:=q
         obtain ⟨h3,h4,h5,e',h6,h7⟩:=h2
         refine ⟨h3,h4,by omega,e',?_,h7⟩
         rw[show j - i=(j -(i+1))+1 by omega];simpa using h6
   · cases e
theorem mL {φ:Ph} {key:TypeId} {d:TypeDesc} {k:AV} (hd:E.P.underlying key=some d) (hk:mI E (some d) k=true) {k':Value} (h:VR φ k k') {jO:List MapEntry} {r':Option (Nat×Value)} {w:World} (hr:(Instr.findAsking key k' jO 0).run E.P w= .ok r' w):
 (Instr.findKey key k' jO).run E.P w= .ok r' w:=by
 unfold mI at hk
 split at hk
 · rename_i fs xs hdd
   cases hdd
   obtain ⟨HI,rfl,HK⟩:=h.mK
   rw[Instr.findKey,Sem.run_bind,run_underlying hd]
   simp only[Result.andThen_ok]
   cases jO with
   | nil=>exact hr
   | cons y ys=>
    have:Instr.findNow (.struct fs) (.agg HI) (y::ys) 0=none:=rfl
    rw[this]
    exact hr
 · cases hk
end Go.Ab
end
section
namespace Go.Ab
variable {E:Env}
theorem OK.cells {φ:Ph} {h:az} {w:World} (ok:OK E φ h w) {i:Nat} {cs:List AV} {e:TypeId} {ro:Bool} (hg:h.get i=some (.cells cs e ro)) {l:Loc} (hl:φ i=some l):
 ∃C e' lo hi,w.heap[l.fB]? =some (.cells C e' (lo,hi))∧CS E φ cs e ro l C e' lo hi:=by
 exact ok.live i _ l hg hl
theorem Md {φ:Ph} {h:az} {w:World} (ok:OK E φ h w) {t:TypeId} {av v:AV} {v':Value} (hv:VR φ av v') (e:cX E h t av=some v):
 ∃x',VR φ v x'∧∀w',w'.heap=w.heap→(Instr.loadAt t v').run E.P w'= .ok x' w':=by
 unfold cX at e
 split at e
 · rename_i i o
   cases hv with
   | @ptr _ l _ hφ=>
   split at e
   · rename_i cs el ro hg
     obtain ⟨C,e',lo,hi,hb,hc⟩:=ok.cells hg hφ
     unfold nG at e
     split at e
     · rename_i ha
       split at e
       · rename_i n hn
         split at e
         · rename_i hle
           simp at e;subst e
           obtain ⟨vs,hvl,Lc,F9⟩:=hc.range o n hle
           refine ⟨.agg vs.toArray,VR.Yf F9,fun w' hw'=>?_⟩
           rw[←hw'] at hb
           have It:=rW (P:=E.P) hb (l.off+o) vs Lc
           rw[hvl] at It
           simp only[Instr.loadAt,Instr.sureAddr,Sem.run_bind,Sem.run_pure,Result.andThen_ok,loadVar,vZ ha,if_true,fZ hn,It]
         · simp at e
       · simp at e
     · rename_i ha
       obtain ⟨y,hy,hr⟩:=hc.val o v e
       refine ⟨y,hr,fun w' hw'=>?_⟩
       rw[←hw'] at hb
       simp only[Instr.loadAt,Instr.sureAddr,Sem.run_bind,Sem.run_pure,Result.andThen_ok,loadVar,vZ ha,Bool.false_eq_true,if_false,run_load,cell_of_heap hb,hy]
     · simp at e
   · simp at e
 · simp at e
theorem Qv {P:Program} (l:List Int):∀(vs:List Value) (acc:ByteArray) (w:World),vs=l.map (fun n=>Value.int .u8 n)→
 (forIn vs acc (fun c s=>(match c with | .int .u8 n=>do pure (ForInStep.yield (s.push (UInt8.ofNat n.toNat))) | _=>do stuck "bytesToString: byte expected";pure (ForInStep.yield s):Sem (ForInStep ByteArray)))).run P w= .ok ⟨(acc.data.toList++l.map (fun n=>UInt8.ofNat n.toNat)).toArray⟩ w:=by
 induction l with
 | nil=>intro vs acc w h;simp at h;subst h;simp [List.forIn_nil]
 | cons b l ih=>
  intro vs acc w h
  cases vs with
  | nil=>simp at h
  | cons v vs=>
   simp at h
   obtain ⟨rfl,Qu⟩:=h
   simp only[List.forIn_cons,Sem.run_bind,Sem.run_pure,Result.andThen_ok]
   rw[ih vs _ w Qu]
   simp [ByteArray.push]
theorem Me {φ:Ph} {d:TypeDesc} {k j:AV} {r:Bool} (hk:l6 (some d) k=true) (e:L5 k j=some r) {k' j':Value} (h:VR φ k k') (h':VR φ j j'):Instr.sameNow d k' j'=some r:=by
 unfold L5 at e
 split at e
 · generalize hs:AV.str _=s at h
   generalize uT:AV.str _=s' at h'
   cases h<;>cases hs
   cases h'<;>cases uT
   simp at e;subst e
   cases d<;>simp [l6] at hk
   rename_i s s'
   simp only[Instr.sameNow]
   congr 1
 · cases h;cases h'
   split at e
   · rename_i Es
     simp at e;subst e;subst Es
     cases d<;>simp [l6] at hk
     simp [Instr.sameNow]
   · simp at e
 · cases h;cases h'
   simp at e;subst e
   cases d<;>simp [l6] at hk
   simp [Instr.sameNow]
 · simp at e
theorem uX {φ:Ph} {d:TypeDesc} {k:AV} {k':Value} (hk:l6 (some d) k=true) (h:VR φ k k'):∀{es:List kO} {jO:List MapEntry} (_:Qo φ es jO) {i:Nat} {r:Option (Nat×AV)} (_:L6 k es i=some r),
 ∃r',Instr.findNow d k' jO i=some r'∧(match r,r' with | none,none=>True | some (j,v),some (j',v')=>j=j'∧VR φ v v'∧i≤j∧∃e,es[j - i]? =some e∧L5 k e.key=some true | _,_=>False)
 | [],jO,he,i,r,e=>by
  cases jO with
  | nil=>simp [L6] at e;subst e;exact ⟨none,rfl,trivial⟩
  | cons _ _=>simp [Qo] at he
 | x::es,jO,he,i,r,e=>by
  obtain ⟨hl,hv⟩:=he
  cases jO with
  | nil=>simp at hl
  | cons y ys=>
   have hx:=hv 0 x y (by simp) (by simp)
   simp only[L6] at e
   split at e
   · rename_i heq
     simp at e;subst e
     refine ⟨some (i,y.val),?_,rfl,hx.val,Nat.le_refl _,x,by simp,heq⟩
     simp [Instr.findNow,Me hk heq h hx.key]
   · rename_i heq
     obtain ⟨r',h1,h2⟩:=uX hk h (es:=es) (jO:=ys) ⟨by simpa using hl,fun i a b p q=>hv (i+1) a b (by simpa using p) (by simpa using q)⟩ e
     refine ⟨r',?_,?_⟩
     · simp [Instr.findNow,Me hk heq h hx.key,h1]
     · cases r with
       | none=>cases r' with
        | none=>trivial
        | some _=>exact h2
       | some p=>
        obtain ⟨j,v⟩:=p
        cases r' with
        | none=>exact h2
        | some q=>
         obtain ⟨j',v'⟩:=q
         obtain ⟨h3,h4,h5,e',h6,h7⟩:=h2
         refine ⟨h3,h4,by omega,e',?_,h7⟩
         rw[show j - i=(j -(i+1))+1 by omega];simpa using h6
   · simp at e
theorem v7 {P:Program} {t:TypeId} {d:TypeDesc} (hu:P.underlying t=some d) {k:AV} (hk:l6 (some d) k=true) {φ:Ph} {k':Value} (h:VR φ k k') (b:Bool) (n:Nat) (w:World):
 (Instr.checkKey b (n+1) t k').run P w= .ok () w:=by
 unfold Instr.checkKey
 rw[Sem.run_bind,run_underlying hu]
 cases d<;>simp [l6] at hk<;>cases h<;>first | rfl | (simp [l6] at hk)
theorem Co {P:Program} {w:World} {a:Addr} {n:Nat} (l:List Int) (hl:(loadCells a n).run P w= .ok ((l.map (fun n=>Value.int .u8 n)).toArray) w) (c:Nat):
 (Conv.bytesToString (.slice (some a) n c)).run P w= .ok (.string ⟨(l.map (fun n=>UInt8.ofNat n.toNat)).toArray⟩) w:=by
 unfold Conv.bytesToString
 simp only[Sem.run_bind,hl,Result.andThen_ok]
 have:=Qv (P:=P) l (l.map (fun n=>Value.int .u8 n)) ByteArray.empty w rfl
 have e:forIn (m:=Sem) (l.map (fun n=>Value.int .u8 n)).toArray ByteArray.empty (fun c s=>(match c with | .int .u8 n=>do pure (ForInStep.yield (s.push (UInt8.ofNat n.toNat))) | _=>do stuck "bytesToString: byte expected";pure (ForInStep.yield s):Sem (ForInStep ByteArray)))
  =forIn (m:=Sem) (l.map (fun n=>Value.int .u8 n)) ByteArray.empty (fun c s=>(match c with | .int .u8 n=>do pure (ForInStep.yield (s.push (UInt8.ofNat n.toNat))) | _=>do stuck "bytesToString: byte expected";pure (ForInStep.yield s):Sem (ForInStep ByteArray))):=by
  rw[←Array.forIn_toList]
 rw[←e] at this
 refine (congrArg (fun r=>Result.andThen r fun a w'=>Sem.run P (pure (Value.string a)) w') this).trans ?_
 simp
theorem F' {φ:Ph}:∀{cs:List AV} {vs:List Value} (_:LR φ cs vs) {l:List UInt8} (_:iX (fun | .int .u8 b=>some (UInt8.ofNat b.toNat) | _=>none) cs=some l),
 ∃ns:List Int,vs=ns.map (fun n=>Value.int .u8 n)∧l=ns.map (fun n=>UInt8.ofNat n.toNat)
 | [],vs,hv,l,h=>by rw[hv.jJ];simp [iX] at h;subst h;exact ⟨[],rfl,rfl⟩
 | c::cs,vs,hv,l,h=>by
  obtain ⟨y,ys,rfl,hy,Af⟩:=hv.dp
  simp only[iX] at h
  split at h
  · simp at h
  · rename_i b hb
    split at h
    · simp at h
    · rename_i bs hbs
      simp at h;subst h
      obtain ⟨ns,rfl,rfl⟩:=F' Af hbs
      split at hb
      · cases hy
        simp at hb;subst hb
        exact ⟨_::ns,rfl,rfl⟩
      · simp at hb
structure Entries (P:Program) (x:Value) (es:Array MapEntry) (w:World):Prop where
 is:(x= .map none∧es= #[])∨∃r clock,x= .map (some r)∧w.heap[r]? =some (.map es clock)
theorem Iu {P:Program} {t key elem:TypeId} (hu:P.underlying t=some (.map key elem)) {x k:Value} {es:Array MapEntry} {w:World} (EK:Entries P x es w)
 {d:TypeDesc} (hd:P.underlying key=some d) (Tb:∀b n,(Instr.checkKey b (n+1) key k).run P w= .ok () w) {r:Option (Nat×Value)} (hf:Instr.findNow d k es.toList 0=some r) {z:Value} (hz:r=none→(zeroValue elem).run P w= .ok z w) (ok:Bool):
 (Instr.lookup t x k ok).run P w= .ok (match r with | some (_,v)=>if ok then .tuple #[v,.bool true] else v | none=>if ok then .tuple #[z,.bool false] else z) w:=by
 have amU:=fun b=>Tb b 9999
 rw[Instr.lookup]
 simp only[Sem.run_bind,run_underlying hu,Result.andThen_ok]
 rcases EK.is with ⟨rfl,rfl⟩ | ⟨b,clock,rfl,hb⟩
 · simp only[Sem.run_bind,Sem.run_pure,Result.andThen_ok,amU,Instr.findKey,run_underlying hd,hf]
   cases r with
   | none=>simp [hz rfl]
   | some q=>simp
 · have Ga:(getObj b).run P w= .ok (.map es clock) w:=by simp [getObj,Sem.run,hb]
   simp only[Sem.run_bind,Sem.run_pure,Result.andThen_ok,Ga,amU,Instr.findKey,run_underlying hd,hf]
   cases r with
   | none=>simp [hz rfl]
   | some q=>simp
theorem Gb {P:Program} {t key elem:TypeId} (hu:P.underlying t=some (.map key elem)) {x k:Value} {es:Array MapEntry} {w:World} (EK:Entries P x es w)
 (Tb:∀b,(Instr.checkKey b 10000 key k).run P w= .ok () w) {r:Option (Nat×Value)} (hf:(Instr.findKey key k es.toList).run P w= .ok r w) {z:Value} (hz:r=none→(zeroValue elem).run P w= .ok z w) (ok:Bool):
 (Instr.lookup t x k ok).run P w= .ok (match r with | some (_,v)=>if ok then .tuple #[v,.bool true] else v | none=>if ok then .tuple #[z,.bool false] else z) w:=by
 rw[Instr.lookup]
 simp only[Sem.run_bind,run_underlying hu,Result.andThen_ok]
 rcases EK.is with ⟨rfl,rfl⟩ | ⟨b,clock,rfl,hb⟩
 · simp only[Sem.run_bind,Sem.run_pure,Result.andThen_ok,Tb,hf]
   cases r with
   | none=>simp [hz rfl]
   | some q=>simp
 · have Ga:(getObj b).run P w= .ok (.map es clock) w:=by simp [getObj,Sem.run,hb]
   simp only[Sem.run_bind,Sem.run_pure,Result.andThen_ok,Ga,Tb,hf]
   cases r with
   | none=>simp [hz rfl]
   | some q=>simp
theorem Gc {φ:Ph} (hg:GL E φ) {h:az} {w:World} (ok:OK E φ h w) {ts:List AV} {a:Act} (ht:LR φ ts a.tmps.toList) {o:Oper} {v:AV} (e:kF E ts h o.op=some v):
 ∃v',VR φ v v'∧∀w',w'.heap=w.heap→(execOp a.eval o).run E.P w'= .ok (.value v') w':=by
 have ev:∀{x:Operand} {v:AV},gn E ts x=some v→VR φ v (a.eval x):=fun h=>rp hg ht h
 unfold execOp
 generalize o.op=op at e ⊢
 unfold kF at e
 split at e
 ·
  split at e
  · rename_i hx
    obtain ⟨x',hx',hr⟩:=Md ok (ev hx) e
    exact ⟨x',hx',fun w' hw=>gY (hr w' hw)⟩
  · simp at e
 ·
  split at e
  · rename_i el v0 hs hd hx
    split at e
    · rename_i he
      simp at e;subst e
      have h1:=ev hx
      generalize oD:a.eval _=cv at h1
      cases h1
      refine ⟨.string .empty,VR.str .empty,fun w' _=>gY ?_⟩
      simp [oD,convert,run_underlying hs,run_underlying hd,run_underlying he,Conv.bytesToString]
    · rename_i i o len _ _ he
      split at e
      · rename_i l hb
        simp at e;subst e
        have h1:=ev hx
        generalize oD:a.eval _=cv at h1
        cases h1 with
        | @slice _ lc _ _ _ _ hφ=>
        unfold V7 at hb
        split at hb
        · rename_i cs el' ro hgc
          split at hb
          · rename_i hle
            obtain ⟨C,e',lo,hi,hbk,hc⟩:=ok.cells hgc hφ
            obtain ⟨vs,hvl,Lc,F9⟩:=hc.range o len hle
            obtain ⟨ns,rfl,rfl⟩:=F' F9 hb
            refine ⟨.string ⟨(ns.map (fun n=>UInt8.ofNat n.toNat)).toArray⟩,?_,fun w' hw'=>gY ?_⟩
            · have:=VR.str (φ:=φ) ⟨(ns.map (fun n=>UInt8.ofNat n.toNat)).toArray⟩
              simpa using this
            · rw[←hw'] at hbk
              have It:=rW (P:=E.P) hbk (lc.off+o) _ Lc
              rw[hvl] at It
              have:=Co ns It (jQ ‹_› ‹_› lc.lr)
              rw[oD]
              simp only[convert,Sem.run_bind,run_underlying hs,run_underlying hd,Result.andThen_ok,run_underlying he]
              exact this
          · simp at hb
        · simp at hb
      · simp at e
    · simp at e
  · simp at e
 ·
  rename_i t x ix j1
  split at e
  · rename_i key elem m k hu hm hk
    split at e
    · rename_i Es
      have NL:∃d,E.P.underlying key=some d∧l6 (some d) k=true:=by
       cases hd:E.P.underlying key with
       | none=>rw[hd] at Es;simp [l6] at Es
       | some d=>rw[hd] at Es;exact ⟨d,rfl,Es⟩
      obtain ⟨d,hd,EL⟩:=NL
      have hmv:=ev hm
      have hkv:=ev hk
      split at e
      · simp at e
      · rename_i es EK
        have A_:∃jO:Array MapEntry,Qo φ es jO.toList∧∀w',w'.heap=w.heap→Entries E.P (a.eval x) jO w':=by
         split at EK
         · simp at EK;subst EK
           generalize oD:a.eval x=cv at hmv
           cases hmv
           exact ⟨#[],⟨rfl,fun i x y p _=>by simp at p⟩,fun w' _=>⟨.inl ⟨rfl,rfl⟩⟩⟩
         · rename_i i
           split at EK
           · rename_i es0 clock hgm
             simp at EK;subst EK
             generalize oD:a.eval x=cv at hmv
             cases hmv with
             | @map _ l hφ=>
             have HJ:=ok.live i _ l hgm hφ
             obtain ⟨Qe,jO,hb,jV⟩:=HJ
             exact ⟨jO,jV,fun w' hw=>⟨.inr ⟨l.fB,clock,rfl,by rw[hw];exact hb⟩⟩⟩
           · simp at EK
         · simp at EK
        obtain ⟨jO,jV,jP⟩:=A_
        split at e
        · simp at e
        · rename_i j v0 hf
          obtain ⟨r',h1,h2⟩:=uX EL hkv jV hf
          cases r' with
          | none=>exact h2.elim
          | some q=>
          obtain ⟨j',v'⟩:=q
          obtain ⟨_,Lc,_⟩:=h2
          simp at e;subst e
          refine ⟨if j1 then .tuple #[v',.bool true] else v',?_,fun w' hw=>gY ?_⟩
          · split
            · exact VR.tuple' (lj:=[v',.bool true]) (.cons Lc (.cons (.bool true) (.nil φ)))
            · exact Lc
          · exact Iu hu (jP w' hw) hd (fun b n=>v7 hd EL hkv b n w') h1 (z:=undef) (fun e=>by simp at e) j1
        · rename_i hf
          obtain ⟨r',h1,h2⟩:=uX EL hkv jV hf
          cases r' with
          | some q=>exact h2.elim
          | none=>
          split at e
          · rename_i z hz
            simp at e;subst e
            obtain ⟨z',Er,mj⟩:=kQ hz
            refine ⟨if j1 then .tuple #[z',.bool false] else z',?_,fun w' hw=>gY ?_⟩
            · split
              · exact VR.tuple' (lj:=[z',.bool false]) (.cons (Er φ) (.cons (.bool false) (.nil φ)))
              · exact Er φ
            · exact Iu hu (jP w' hw) hd (fun b n=>v7 hd EL hkv b n w') h1 (fun _=>mj w') j1
          · simp at e
    · split at e
      · rename_i Es
        have NL:∃d,E.P.underlying key=some d∧mI E (some d) k=true:=by
         cases hd:E.P.underlying key with
         | none=>rw[hd] at Es;simp [mI] at Es
         | some d=>rw[hd] at Es;exact ⟨d,rfl,Es⟩
        obtain ⟨d,hd,EL⟩:=NL
        have hmv:=ev hm
        have hkv:=ev hk
        split at e
        · simp at e
        · rename_i es EK
          have A_:∃jO:Array MapEntry,Qo φ es jO.toList∧∀w',w'.heap=w.heap→Entries E.P (a.eval x) jO w':=by
           split at EK
           · simp at EK;subst EK
             generalize oD:a.eval x=cv at hmv
             cases hmv
             exact ⟨#[],⟨rfl,fun i x y p _=>by simp at p⟩,fun w' _=>⟨.inl ⟨rfl,rfl⟩⟩⟩
           · rename_i i
             split at EK
             · rename_i es0 clock hgm
               simp at EK;subst EK
               generalize oD:a.eval x=cv at hmv
               cases hmv with
               | @map _ l hφ=>
               have HJ:=ok.live i _ l hgm hφ
               obtain ⟨Qe,jO,hb,jV⟩:=HJ
               exact ⟨jO,jV,fun w' hw=>⟨.inr ⟨l.fB,clock,rfl,by rw[hw];exact hb⟩⟩⟩
             · simp at EK
           · simp at EK
          obtain ⟨jO,jV,jP⟩:=A_
          split at e
          · simp at e
          · rename_i j v0 hf
            obtain ⟨r',h1,h2⟩:=pR hkv jV hf
            cases r' with
            | none=>exact h2.elim
            | some q=>
            obtain ⟨j',v'⟩:=q
            obtain ⟨_,Lc,_⟩:=h2
            simp at e;subst e
            refine ⟨if j1 then .tuple #[v',.bool true] else v',?_,fun w' hw=>gY ?_⟩
            · split
              · exact VR.tuple' (lj:=[v',.bool true]) (.cons Lc (.cons (.bool true) (.nil φ)))
              · exact Lc
            · exact Gb hu (jP w' hw) (fun b=>tM hd EL hkv b 9998 w') (mL hd EL hkv (h1 w')) (z:=undef) (fun e=>by simp at e) j1
          · rename_i hf
            obtain ⟨r',h1,h2⟩:=pR hkv jV hf
            cases r' with
            | some q=>exact h2.elim
            | none=>
            split at e
            · rename_i z hz
              simp at e;subst e
              obtain ⟨z',Er,mj⟩:=kQ hz
              refine ⟨if j1 then .tuple #[z',.bool false] else z',?_,fun w' hw=>gY ?_⟩
              · split
                · exact VR.tuple' (lj:=[z',.bool false]) (.cons (Er φ) (.cons (.bool false) (.nil φ)))
                · exact Er φ
              · exact Gb hu (jP w' hw) (fun b=>tM hd EL hkv b 9998 w') (mL hd EL hkv (h1 w')) (fun _=>mj w') j1
            · simp at e
      · simp at e
  · simp at e
 ·
  split at e
  · rename_i t i htp Qu
    have hl:=kP hg ht Qu
    obtain ⟨y,ys,Af,hy,NH⟩:=hl.dp
    rw[NH.jJ] at Af
    have h0:∀(args:Array Operand),args.toList.map a.eval=[y]→args.map a.eval= #[y]:=fun args e=>by rw[map_toArray,e]
    have h0:=h0 _ Af
    cases hy with
    | @map _ l hφ=>
    split at e
    · rename_i es clock hu hgm
      simp at e;subst e
      have HJ:=ok.live i _ l hgm hφ
      obtain ⟨Qe,jO,hb,hlen,_⟩:=HJ
      refine ⟨_,.int _ _,fun w' hw=>?_⟩
      rw[←hw] at hb
      have Ga:(getObj l.fB).run E.P w'= .ok (.map jO clock) w':=by simp [getObj,Sem.run,hb]
      simp [resolve,invoke,builtin,h0,Builtin.len_,htp,run_underlying hu,goInt,Ga,hlen]
    · simp at e
  · simp at e
 · simp at e
end Go.Ab
end
section
namespace Go.Ab
variable {E:Env}
theorem Cp (z:List AV):∀(n i:Nat),i<n*z.length→(cB z n)[i]? =z[i%z.length]?
 | 0,i,h=>by omega
 | n+1,i,h=>by
  rw[cB]
  by_cases hi:i<z.length
  · rw[List.getElem?_append_left hi,Nat.mod_eq_of_lt hi]
  · rw[List.getElem?_append_right (by omega),Cp z n (i - z.length) (by rw[Nat.add_mul] at h;omega)]
    rw[Nat.mod_eq_sub_mod (a:=i) (by omega)]
theorem rq (z:List AV):∀n,(cB z n).length=n*z.length
 | 0=>by simp [cB]
 | n+1=>by rw[cB,List.length_append,rq z n,Nat.add_mul];omega
theorem Tz {φ:Ph} {z:List AV} {z':Array Value} (h:LR φ z z'.toList) (n:Nat):LR φ (cB z n) ((Array.range (n*z'.size)).map (fun i=>z'[i%z'.size]!)).toList:=by
 have hl:z.length=z'.size:=by simpa using h.1
 refine ⟨by rw[rq];simp [hl],fun i x y hx hy=>?_⟩
 have hi:i<n*z.length:=by
  have:=(List.getElem?_eq_some_iff.1 hx).1
  rwa [rq] at this
 rw[Cp z n i hi] at hx
 obtain ⟨v,hv,hr⟩:=h.get hx
 have ajf:0<z'.size:=by
  rcases Nat.eq_zero_or_pos z'.size with h0 | h0
  · rw[hl,h0] at hi;omega
  · exact h0
 have:i%z'.size<z'.size:=Nat.mod_lt _ ajf
 rw[hl] at hi
 simp [hi] at hy
 rw[hl] at hv
 simp [this] at hv
 simp [this] at hy
 rw[←hy,hv];exact hr
structure Made (E:Env) (φ:Ph) (obj:aN) (mk:Nat→AV) (O:Obj) (mk':Nat→Value):Prop where
 val:∀(φ':Ph) (i b:Nat),φ.le φ'→φ' i=some ⟨b,0,0⟩→VR φ' (mk i) (mk' b)
 obj:∀(φ':Ph) (b:Nat),φ.le φ'→OR E φ' obj ⟨b,0,0⟩ (some O)
theorem Cq {φ φ':Ph} (hle:φ.le φ') {cs:List AV} {C:Array Value} (h:LR φ cs C.toList) (t:TypeId) (b:Nat):OR E φ' (.cells cs t false) ⟨b,0,0⟩ (some (.cells C t)):=by
 refine ⟨C,t,0,0,rfl,⟨?_,fun k x hk=>?_,fun _ k _ _=>by omega,fun _ _ _=>rfl⟩,fun _=>⟨rfl,rfl,fun _ _ _=>by have:=h.1;simp at this;exact this.symm⟩⟩
 · have:=h.1;simp at this;simp [iJ,this]
 · obtain ⟨y,hy,hr⟩:=h.get hk
   exact ⟨y,by simpa using hy,hr.mono hle⟩
set_option linter.unusedSimpArgs false in
set_option maxHeartbeats 1000000 in
theorem Cr {φ:Ph} (hg:GL E φ) {ts:List AV} {a:Act} (ht:LR φ ts a.tmps.toList) {o:Oper} {obj:aN} {mk:Nat→AV} (e:jt E ts o.op=some (obj,mk)):
 ∃O mk',Made E φ obj mk O mk'∧∀w,(execOp a.eval o).run E.P w= .ok (.value (mk' w.heap.size)) (w.alloc O):=by
 have ev:∀{x:Operand} {v:AV},gn E ts x=some v→VR φ v (a.eval x):=fun h=>rp hg ht h
 unfold execOp
 generalize o.op=op at e ⊢
 unfold jt at e
 split at e
 ·
  rename_i t
  split at e
  · rename_i z hz
    simp at e;obtain ⟨rfl,rfl⟩:=e
    obtain ⟨z',Er,mj⟩:=kQ hz
    refine ⟨.cells z'.cells t,fun b=> .pointer (some ⟨b,0,none⟩),⟨fun φ' i b _ hi=>by have:=VR.ptr (φ:=φ') 0 hi;simpa using this,fun φ' b hle=>Cq hle (Er φ).cells _ b⟩,fun w=>gY ?_⟩
    simp [Instr.alloc,mj,newVar,newRow]
  · simp at e
 ·
  rename_i t x
  split at e
  · rename_i v hv
    simp at e;obtain ⟨rfl,rfl⟩:=e
    refine ⟨.cells (a.eval x).cells t,fun b=> .pointer (some ⟨b,0,none⟩),⟨fun φ' i b _ hi=>by have:=VR.ptr (φ:=φ') 0 hi;simpa using this,fun φ' b hle=>Cq hle (ev hv).cells _ b⟩,fun w=>gY ?_⟩
    simp [Instr.box,newVar,newRow]
  · simp at e
 ·
  rename_i t len parts
  split at e
  · rename_i elem hu
    split at e
    · rename_i n z ps hn hz hps
      split at e
      · rename_i hc
        split at e
        · rename_i cs hf
          simp at e;obtain ⟨rfl,rfl⟩:=e
          obtain ⟨z',Er,mj⟩:=kQ hz
          have hp:=EI hg ht hps
          have hzl:z'.cells.size=n:=by have:=(Er φ).cells.1;simp at this;omega
          have aaN:=Tz (Er φ).cells len
          rw[hzl] at aaN
          obtain ⟨C',F8,F9⟩:=zF (place:=fun i=>some (i*n,n)) (qs:=(parts.map fun (i,x)=>(i,a.eval x)).toList) (by simpa using hp) aaN hf
          refine ⟨.cells C' elem,fun b=> .slice (some ⟨b,0,none⟩) len len,⟨fun φ' i b _ hi=>by have:=VR.slice (φ:=φ') 0 len len false hi;simpa [jQ] using this,fun φ' b hle=>Cq hle F9 _ b⟩,fun w=>gY ?_⟩
          have h24:¬len*n>2^24:=by omega
          simp only[Instr.buildSlice,Sem.run_bind,run_underlying hu,Result.andThen_ok,fZ hn,h24,if_false,Sem.run_pure]
          by_cases h0:len*n=0
          · simp only[h0,if_true,Sem.run_pure,Result.andThen_ok]
            rw[h0] at F8
            have r0:Array.range 0= #[]:=rfl
            simp [r0] at F8
            simp [F8,newRow,r0]
          · simp only[h0,if_false,Sem.run_bind,mj,Result.andThen_ok,Sem.run_pure]
            rw[hzl]
            simp only[F8]
            simp [newRow]
        · simp at e
      · simp at e
    · simp at e
  · simp at e
 ·
  rename_i t lo co
  split at e
  · rename_i elem k len k' cap hu hl hc
    split at e
    · rename_i n bytes z hn hb hz
      split at e
      · rename_i Tw
        obtain ⟨c1,c2,c3,c4,c5⟩:=Tw
        simp at e;obtain ⟨rfl,rfl⟩:=e
        obtain ⟨z',Er,mj⟩:=kQ hz
        have hzl:z'.cells.size=n:=by have:=(Er φ).cells.1;simp at this;omega
        have aaN:=Tz (Er φ).cells cap.toNat
        rw[hzl] at aaN
        have h1:=ev hl
        have h2:=ev hc
        generalize hlv:a.eval lo=lv at h1
        generalize oD:a.eval co=cv at h2
        cases h1;cases h2
        refine ⟨.cells ((Array.range (cap.toNat*n)).map (fun i=>z'.cells[i%n]!)) elem,fun b=> .slice (some ⟨b,0,none⟩) len.toNat cap.toNat,
         ⟨fun φ' i b _ hi=>by have:=VR.slice (φ:=φ') 0 len.toNat cap.toNat false hi;simpa [jQ] using this,fun φ' b hle=>Cq hle aaN _ b⟩,fun w=>gY ?_⟩
        have w1:IntKind.i64.wrap len=len:=IntWalk.i64_in _ (by omega)
        have w2:IntKind.i64.wrap cap=cap:=IntWalk.i64_in _ (by omega)
        obtain ⟨inf,Qw,kr⟩:=uV (zD _ hb) w
        have t1:¬(cap<0∨(2^48:Int)<bytes*cap):=by omega
        simp only[Instr.makeSlice,Sem.run_bind,run_underlying hu,Result.andThen_ok,hlv,oD,asInt,asIntOf,Sem.run_pure,Qw,kr,w1,w2]
        have hb0:(0:Int)≤inf.bytes*cap:=Int.mul_nonneg (by omega) (by omega)
        have tl:(decide (cap<0)||decide ((inf.bytes:Int)*cap>2^48))=false:=by
         rw[kr];simp only[Bool.or_eq_false_iff,decide_eq_false_iff_not];omega
        have tl2:decide (len<0)=false:=by simp only[decide_eq_false_iff_not];omega
        have tl3:decide (len>cap)=false:=by simp only[decide_eq_false_iff_not];omega
        rw[←kr]
        simp only[tl,tl2,tl3,Bool.or_self,Bool.false_eq_true,if_false,run_askRoom,fZ hn,Sem.run_bind,Result.andThen_ok]
        by_cases h0:cap.toNat*n=0
        · have r0:Array.range 0= #[]:=rfl
          simp [h0,newRow,r0]
        · simp only[h0,if_false,Sem.run_bind,mj,Result.andThen_ok,Sem.run_pure]
          simp [newRow,hzl]
      · simp at e
    · simp at e
  · simp at e
 ·
  rename_i t r
  split at e
  · simp at e;obtain ⟨rfl,rfl⟩:=e
    exact ⟨.map #[] 0,fun b=> .map (some b),⟨fun φ' i b _ hi=>by have:=VR.map (φ:=φ') hi;simpa using this,fun φ' b hle=>⟨rfl, #[],rfl,rfl,fun i x y p _=>by simp at p⟩⟩,fun w=>gY (by simp [Instr.makeMap])⟩
  · rename_i o
    split at e
    · rename_i hu hv
      simp at e;obtain ⟨rfl,rfl⟩:=e
      have h1:=ev hv
      generalize hlv:a.eval o=lv at h1
      cases h1
      exact ⟨.map #[] 0,fun b=> .map (some b),⟨fun φ' i b _ hi=>by have:=VR.map (φ:=φ') hi;simpa using this,fun φ' b hle=>⟨rfl, #[],rfl,rfl,fun i x y p _=>by simp at p⟩⟩,fun w=>gY (by simp [Instr.makeMap,run_underlying hu,hlv,asInt,asIntOf])⟩
    · simp at e
 ·
  rename_i t x
  split at e
  · rename_i s hu hx
    simp at e;obtain ⟨rfl,rfl⟩:=e
    have h1:=ev hx
    generalize hlv:a.eval x=lv at h1
    generalize Ty:AV.str s=s0 at h1
    cases h1<;>cases Ty
    rename_i s'
    exact ⟨.stringIter s' 0,fun b=> .pointer (some ⟨b,0,none⟩),⟨fun φ' i b _ hi=>by have:=VR.ptr (φ:=φ') 0 hi;simpa using this,fun φ' b hle=>⟨rfl,s',rfl,rfl⟩⟩,fun w=>gY (by simp [Instr.range,run_underlying hu,hlv])⟩
  · rename_i hu hx
    simp at e;obtain ⟨rfl,rfl⟩:=e
    have h1:=ev hx
    generalize hlv:a.eval x=lv at h1
    cases h1
    exact ⟨.mapIter none 0 #[] 0,fun b=> .pointer (some ⟨b,0,none⟩),⟨fun φ' i b _ hi=>by have:=VR.ptr (φ:=φ') 0 hi;simpa using this,fun φ' b hle=>⟨rfl,rfl⟩⟩,fun w=>gY (by simp [Instr.range,run_underlying hu,hlv])⟩
  · simp at e
 · simp at e
end Go.Ab
end
