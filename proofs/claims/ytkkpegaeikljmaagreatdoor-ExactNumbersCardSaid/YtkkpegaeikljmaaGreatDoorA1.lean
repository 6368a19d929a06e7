import Derived.Laws.StructEq
import Derived.Laws.Slices
import Derived.Laws.Strings
import Derived.ChangeKeysEq
import Derived.Deep.MidRow
import Derived.Lib.Strings
import Derived.IntWalk
import Derived.Test.YtkkpegaeikljmaaGreatDoorA0
set_option linter.unusedVariables false
set_option linter.unusedSimpArgs false
section
namespace Go.Ab
variable {E:Env}
def GL (E:Env) (φ:Ph):Prop:=∀g,g<E.G→φ g=some ⟨g,0,0⟩
theorem oI {φ:Ph} (hg:GL E φ) {ts:List AV} {a:Act} (ht:LR φ ts a.tmps.toList) {x:Operand} {v:AV} (h:eW E ts x=some v):VR φ v (a.eval x):=by
 cases x with
 | tmp t=>
   simp only[eW,Option.some.injEq] at h;subst h
   have:=ht.getD (VR.undef φ) t
   rw[show a.eval (.tmp t)=a.tmps.toList.getD t undef by simp [Act.eval,Array.getD_eq_getD_getElem?,List.getD]]
   exact this
 | const c=>exact Fx φ h
 | global g=>
   simp only[eW] at h
   split at h
   · rename_i gL;simp at h;subst h;have:=VR.ptr 0 (hg g gL);simpa [Act.eval] using this
   · simp at h
 | func f=>simp [eW] at h;subst h;exact VR.Tc (a':=[]) (b':=[]) f (LR.nil φ) (LR.nil φ)
theorem ir {φ:Ph} (hg:GL E φ) {ts:List AV} {a:Act} (ht:LR φ ts a.tmps.toList) {l:List Operand} {r:List AV} (h:iM E ts l=some r):LR φ r (l.map a.eval):=by
 obtain ⟨hl,hv⟩:=vT h
 refine ⟨by simp [hl],fun i x y hx hy=>?_⟩
 simp at hy
 obtain ⟨o,ho,rfl⟩:=hy
 obtain ⟨z,hz,he⟩:=hv i o ho
 rw[hx] at hz;simp at hz;subst hz
 exact oI hg ht he
theorem dN {P:Program} {t:TypeId} {n:Nat} (h:(P.info? t).map (·.size)=some n) (w:World):(sizeOf t).run P w= .ok n w:=by
 cases hq:P.info? t with
 | none=>simp [hq] at h
 | some i=>simp [hq] at h;simp [sizeOf,typeInfo,hq,h]
theorem s9 {P:Program} {t:TypeId} {n:Nat} (h:(P.info? t).map (·.bytes)=some n) (w:World):∃i,(typeInfo t).run P w= .ok i w∧i.bytes=n:=by
 cases hq:P.info? t with
 | none=>simp [hq] at h
 | some i=>simp [hq] at h;exact ⟨i,by simp [typeInfo,hq],h⟩
theorem jN {t:TypeId} {z:AV} (h:jW E t=some z):∃z',(∀φ,VR φ z z')∧∀w,(zeroValue t).run E.P w= .ok z' w:=by
 unfold jW at h
 split at h
 · rename_i i hi
   split at h
   · rename_i z' hz
     exact ⟨z',fun φ=>Fx φ h,fun w=>by simp [zeroValue,typeInfo,hi,hz]⟩
   · simp at h
 · simp at h
theorem uy {t:TypeId} {b:Bool} (h:iS E t=some b) (w:World):(isAgg t).run E.P w= .ok b w:=by
 unfold iS at h
 unfold isAgg
 rw[Sem.run_bind]
 split at h<;>rename_i hu<;>simp at h
 · subst h;rw[run_underlying hu];rfl
 · subst h;rw[run_underlying hu];rfl
 · rename_i d h1 h2
   subst h;rw[run_underlying hu]
   cases d<;>first | rfl | (exact absurd rfl (h1 _)) | (exact absurd rfl (h2 _ _))
theorem toArray_extract (l:List Value) (a b:Nat):l.toArray.extract a b=((l.drop a).take (b - a)).toArray:=by simp
theorem xU {φ:Ph} {t:TypeId} {cs:List AV} {i_:List Value} (hc:LR φ cs i_) {off:Nat} {v:AV} (h:jX E t cs off=some v):
 ∃v',VR φ v v'∧∀w,(part t i_.toArray off).run E.P w= .ok v' w:=by
 unfold jX at h
 split at h
 · rename_i ha
   split at h
   · rename_i n hn
     split at h
     · simp at h;subst h
       refine ⟨.agg ((i_.drop off).take n).toArray,VR.U2 ((hc.drop off).take n),fun w=>?_⟩
       simp only[part,Sem.run_bind,uy ha,Result.andThen_ok,if_true,dN hn,Sem.run_pure,toArray_extract,Nat.add_sub_cancel_left]
     · simp at h
   · simp at h
 · rename_i ha
   obtain ⟨y,hy,hv⟩:=hc.get h
   refine ⟨y,hv,fun w=>?_⟩
   simp only[part,Sem.run_bind,uy ha,Result.andThen_ok,Bool.false_eq_true,if_false]
   have:i_.toArray[off]? =some y:=by simpa using hy
   simp [this]
 · simp at h
theorem bytes_beq (a b:ByteArray):(a.toList==b.toList)=(a.data.toList==b.data.toList):=by rw[ByteArray.toList_eq,ByteArray.toList_eq]
set_option linter.unusedSimpArgs false in
theorem QP {φ:Ph} {op:BinOp} {k:IntKind} {x y:Int} {v:AV} (h:j2 op k x y=some v) (hs:op≠ .shl) (zF:op≠ .shr) (t:TypeId):
 ∃v',VR φ v v'∧∀w,(binOp op t (.int k x) (.int k y)).run E.P w= .ok v' w:=by
 unfold j2 at h
 split at h
 all_goals first
  | (simp at h;subst h;exact ⟨_,.int _ _,fun w=>by simp [binOp,Op.intArith,Op.intBits,Op.intCmp]⟩)
  | (simp at h;subst h;exact ⟨_,.bool _,fun w=>by simp [binOp,Op.intArith,Op.intBits,Op.intCmp]⟩)
  | (split at h
     · simp at h
     · rename_i hy
       simp at h;subst h;exact ⟨_,.int _ _,fun w=>by simp [binOp,Op.intDiv,hy]⟩)
  | simp at h
set_option linter.unusedSimpArgs false in
theorem QR {φ:Ph} {op:BinOp} {x y:ByteArray} {v:AV} (h:CL op x.data.toList y.data.toList=some v) (t:TypeId):
 ∃v',VR φ v v'∧∀w,(binOp op t (.string x) (.string y)).run E.P w= .ok v' w:=by
 unfold CL at h
 split at h
 · split at h
   · rename_i gL
     simp at h;subst h
     refine ⟨.string (x++y),?_,fun w=>?_⟩
     · have:=VR.str (φ:=φ) (x++y);simpa using this
     · have am3:x.size+y.size<1099511627776:=by
        have e:∀b:ByteArray,b.size=b.data.toList.length:=fun b=>by cases b;rfl
        rw[e,e];exact gL
       have hm:IntKind.i64.max=9223372036854775807:=by decide
       have:¬((x.size+y.size:Nat):Int) >IntKind.i64.max:=by rw[hm];omega
       simp only[binOp,Op.stringOp,this,if_false,Sem.run_pure]
   · simp at h
 all_goals first
  | (simp only[Option.some.injEq] at h;subst h;exact ⟨_,.bool _,fun w=>by simp only[binOp,Op.stringOp,bytes_beq,ByteArray.toList_eq,Sem.run_pure]⟩)
  | simp at h
theorem I0 {φ:Ph} {t:TypeId} {x y:AV} {r:Bool} (h:U0 E t x y=some r) {x' y':Value} (hx:VR φ x x') (hy:VR φ y y') (dd:Nat):
 ∀w,(Op.equalIn (dd+1) t x' y').run E.P w= .ok r w:=by
 intro w
 unfold U0 at h
 split at h<;>(try (simp at h;done))
 all_goals
  rename_i hd
  split at h<;>(try (simp at h;done))
  all_goals
   simp only[Option.some.injEq] at h
   subst h
   unfold Op.equalIn
   rw[Sem.run_bind,run_underlying hd]
   cases hx<;>cases hy<;>rfl
theorem L6 {φ:Ph} {t:TypeId} {x y:AV} {r:Bool} (h:U0 E t x y=some r) {x' y':Value} (hx:VR φ x x') (hy:VR φ y y'):
 ∀w,(Op.equal t x' y').run E.P w= .ok r w:=I0 h hx hy 9999
theorem sJ {φ:Ph} {eq:TypeId→AV→AV→Option Bool} {d:Nat} (heq:∀t a b r a' b',eq t a b=some r→VR φ a a'→VR φ b b'→∀w,(Op.equalIn d t a' b').run E.P w= .ok r w)
 {xs ys:List AV} {U1 Il:Array Value} (hx:LR φ xs U1.toList) (hy:LR φ ys Il.toList):∀{fs:List Field} {r:Bool} (_:pN E eq xs ys fs=some r) (w:World),(Op.eqFields d U1 Il fs).run E.P w= .ok r w
 | [],r,h,w=>by simp [pN] at h;subst h;rfl
 | f::fs,r,h,w=>by
   simp only[pN] at h
   unfold Op.eqFields
   split at h
   · rename_i hn
     rw[if_neg (by simp [hn])]
     exact sJ heq hx hy h w
   · rename_i hn
     rw[if_pos hn]
     split at h
     · rename_i a b ha hb
       obtain ⟨a',hva,xV⟩:=xU hx ha
       obtain ⟨b',hvb,CU⟩:=xU hy hb
       rw[Array.toArray_toList] at xV CU
       split at h
       · rename_i he
         have:=sJ heq hx hy h w
         simp [Sem.run_bind,xV,CU,heq _ _ _ _ _ _ he hva hvb,this]
       · rename_i he
         simp at h;subst h
         simp [Sem.run_bind,xV,CU,heq _ _ _ _ _ _ he hva hvb]
       · simp at h
     · simp at h
theorem Ag {φ:Ph}:∀(n d:Nat) (t:TypeId) (a b:AV) (r:Bool) (a' b':Value) (_:CM E n t a b=some r) (_:VR φ a a') (_:VR φ b b') (w:World),(Op.equalIn (d+n) t a' b').run E.P w= .ok r w
 | 0,_,_,_,_,_,_,_,h,_,_,_=>by simp [CM] at h
 | n+1,d,t,a,b,r,a',b',h,ha,hb,w=>by
   rw[←Nat.add_assoc]
   unfold CM at h
   split at h
   · cases ha;cases hb
     split at h
     · rename_i hu
       split at h
       · rename_i hk;subst hk
         simp at h;subst h
         exact run_equalIn_int w (d+n) t _ _ _ _ hu
       · simp at h
     · simp at h
   · cases ha;cases hb
     split at h
     · rename_i hu
       simp only[Option.some.injEq] at h;subst h
       rw[run_equalIn_string w (d+n) t _ _ hu,ByteArray.toList_eq,ByteArray.toList_eq]
     · simp at h
   · obtain ⟨U1,rfl,hxs⟩:=ha.pj
     obtain ⟨Il,rfl,A_⟩:=hb.pj
     split at h
     · rename_i fs hu
       split at h
       · rename_i ja
         have hfs:E.P.fieldsOf t=fs:=by simp [Program.fieldsOf,hu]
         rw[run_equalIn_struct w (d+n) t U1 Il (by rw[hfs];exact hu) ja,hfs]
         exact sJ (fun t a b r a' b' h1 h2 h3 w=>Ag n d t a b r a' b' h1 h2 h3 w) hxs A_ h w
       · simp at h
     · simp at h
   · exact I0 h ha hb (d+n) w
theorem DL {op:BinOp} {t:TypeId} (x y:Operand) (xs ys:Array Value) (h:E.P.eqGuardType E.P.depth t=false) (w:World):(eqGuard op t x y (.agg xs) (.agg ys)).run E.P w= .ok () w:=by
 unfold eqGuard
 cases op<;>(try rfl)
 all_goals simp [Sem.run_bind,run_program,h]
theorem zG {op:BinOp} (h1:op≠ .eql) (h2:op≠ .neq) (t:TypeId) (x y:Operand) (a b:Value) (w:World):(eqGuard op t x y a b).run E.P w= .ok () w:=by
 unfold eqGuard;cases op<;>first | rfl | (exact absurd rfl h1) | (exact absurd rfl h2)
def J' (xc yc:Bool):Value→Value→Bool
 | .nilIface,.nilIface=>xc||yc
 | .agg _,.agg _=>false
 | _,_=>true
theorem nS {op:BinOp} (t:TypeId) (x y:Operand) (a b:Value) (h:J' (isConst x) (isConst y) a b=true) (w:World):
 (eqGuard op t x y a b).run E.P w= .ok () w:=by
 unfold eqGuard
 cases op<;>(try rfl)
 all_goals
  cases a<;>cases b<;>first
   | rfl
   | (simp [J'] at h;done)
   | (cases x<;>cases y<;>first | rfl | (simp [J',isConst] at h;done))
theorem I1 {k k':IntKind} {x y:Int} (hy:¬y<0) (t:TypeId):
 (∀w,(binOp .shl t (.int k x) (.int k' y)).run E.P w= .ok (.int k (k.wrap (x*2^(min y.toNat k.bits)))) w)∧
 (∀w,(binOp .shr t (.int k x) (.int k' y)).run E.P w= .ok (.int k (x.fdiv (2^(min y.toNat k.bits)))) w):=by
 constructor<;>intro w<;>simp [binOp,Op.shift,hy]
theorem FC {φ:Ph} {a b:AV} {a' b':Value} (hx:VR φ a a') (hy:VR φ b b') {xo yo:Operand} (h:rS (isConst xo) (isConst yo) a b=true):
 J' (isConst xo) (isConst yo) a' b'=true:=by
 cases hx<;>cases hy<;>first | rfl | exact h | (simp [rS] at h;done)
def kn:Value→Prop
 | .float _ _ | .complex _ _ _=>False
 | _=>True
theorem VR.kn {φ:Ph} {a:AV} {a':Value} (h:VR φ a a'):Ab.kn a':=by
 cases h with
 | any _ h=>cases a'<;>first | exact trivial | cases h
 | _=>exact trivial
theorem binOp_eql (t:TypeId) {a b:Value} (h1:∀k m k' m',a= .int k m→b= .int k' m'→False) (h2:∀k m,a= .string k→b= .string m→False) (h3:kn a) (h4:kn b):
 binOp .eql t a b=(do pure (.bool (←Op.equal t a b)):Sem Value):=by
 unfold binOp
 split<;>first
  | rfl
  | contradiction
  | (exact (h1 _ _ _ _ rfl rfl).elim)
  | (exact (h2 _ _ rfl rfl).elim)
  | (exact h3.elim)
  | (exact h4.elim)
  | (exfalso;simp_all;done)
theorem binOp_neq (t:TypeId) {a b:Value} (h1:∀k m k' m',a= .int k m→b= .int k' m'→False) (h2:∀k m,a= .string k→b= .string m→False) (h3:kn a) (h4:kn b):
 binOp .neq t a b=(do pure (.bool (!(←Op.equal t a b))):Sem Value):=by
 unfold binOp
 split<;>first
  | rfl
  | contradiction
  | (exact (h1 _ _ _ _ rfl rfl).elim)
  | (exact (h2 _ _ rfl rfl).elim)
  | (exact h3.elim)
  | (exact h4.elim)
  | (exfalso;simp_all;done)
set_option linter.unusedSimpArgs false in
theorem Xo {φ:Ph} {op:BinOp} {t:TypeId} {xo yo:Operand} {a b v:AV} (h:pX E op t (isConst xo) (isConst yo) a b=some v) {a' b':Value} (hx:VR φ a a') (hy:VR φ b b'):
 ∃v',VR φ v v'∧∀w,(do eqGuard op t xo yo a' b';binOp op t a' b':Sem Value).run E.P w= .ok v' w:=by
 unfold pX at h
 split at h
 ·
  cases hx;cases hy
  split at h
  · simp at h
  · rename_i hn
    simp at h;subst h
    refine ⟨_,.int _ _,fun w=>?_⟩
    rw[Sem.run_bind,zG (by decide) (by decide)]
    exact (I1 (E:=E) hn t).1 w
 · cases hx;cases hy
   split at h
   · simp at h
   · rename_i hn
     simp at h;subst h
     refine ⟨_,.int _ _,fun w=>?_⟩
     rw[Sem.run_bind,zG (by decide) (by decide)]
     exact (I1 (E:=E) hn t).2 w
 · rename_i k x k' y h1 h2
   cases hx;cases hy
   split at h
   · rename_i hk;subst hk
     obtain ⟨v',hv,hr⟩:=QP (φ:=φ) (E:=E) h h1 h2 t
     refine ⟨v',hv,fun w=>?_⟩
     rw[Sem.run_bind,nS _ _ _ _ _ rfl]
     exact hr w
   · simp at h
 · cases hx;cases hy
   obtain ⟨v',hv,hr⟩:=QR (φ:=φ) (E:=E) h t
   refine ⟨v',hv,fun w=>?_⟩
   rw[Sem.run_bind,nS _ _ _ _ _ rfl]
   exact hr w
 ·
  split at h
  · simp at h
  · rename_i hg
    split at h
    · rename_i r hr
      simp at h;subst h
      refine ⟨_,.bool r,fun w=>?_⟩
      obtain ⟨U1,rfl,hxs⟩:=hx.pj
      obtain ⟨Il,rfl,A_⟩:=hy.pj
      rw[Sem.run_bind,DL _ _ _ _ (by simpa using hg)]
      have:=Ag 16 9984 t _ _ r _ _ hr hx hy w
      simp only[Result.andThen_ok]
      rw[binOp_eql (a:= .agg U1) (b:= .agg Il) t (fun _ _ _ _ e=>by simp at e) (fun _ _ e=>by simp at e) trivial trivial,Sem.run_bind]
      rw[show (Op.equal t (.agg U1) (.agg Il)).run E.P w= .ok r w from this];rfl
    · simp at h
 · split at h
   · simp at h
   · rename_i hg
     split at h
     · rename_i r hr
       simp at h;subst h
       refine ⟨_,.bool (!r),fun w=>?_⟩
       obtain ⟨U1,rfl,hxs⟩:=hx.pj
       obtain ⟨Il,rfl,A_⟩:=hy.pj
       rw[Sem.run_bind,DL _ _ _ _ (by simpa using hg)]
       have:=Ag 16 9984 t _ _ r _ _ hr hx hy w
       simp only[Result.andThen_ok]
       rw[binOp_neq (a:= .agg U1) (b:= .agg Il) t (fun _ _ _ _ e=>by simp at e) (fun _ _ e=>by simp at e) trivial trivial,Sem.run_bind]
       rw[show (Op.equal t (.agg U1) (.agg Il)).run E.P w= .ok r w from this];rfl
     · simp at h
 · rename_i h1 h2 _
   split at h
   · rename_i hg
     split at h
     · rename_i r hr
       simp at h;subst h
       refine ⟨_,.bool r,fun w=>?_⟩
       rw[Sem.run_bind,nS _ _ _ _ _ (FC hx hy hg)]
       have:=L6 hr hx hy w
       simp only[Result.andThen_ok]
       rw[binOp_eql t (fun k m k' m' e e'=>by subst e;subst e';cases hx<;>cases hy<;>first | exact h1 _ _ _ _ rfl rfl | (simp [rS] at hg;done)) (fun k m e e'=>by subst e;subst e';cases hx<;>cases hy<;>first | exact h2 _ _ rfl rfl | (simp [rS] at hg;done)) (VR.kn hx) (VR.kn hy)]
       rw[Sem.run_bind,this];rfl
     · simp at h
   · simp at h
 · rename_i h1 h2 _
   split at h
   · rename_i hg
     split at h
     · rename_i r hr
       simp at h;subst h
       refine ⟨_,.bool (!r),fun w=>?_⟩
       rw[Sem.run_bind,nS _ _ _ _ _ (FC hx hy hg)]
       have:=L6 hr hx hy w
       simp only[Result.andThen_ok]
       rw[binOp_neq t (fun k m k' m' e e'=>by subst e;subst e';cases hx<;>cases hy<;>first | exact h1 _ _ _ _ rfl rfl | (simp [rS] at hg;done)) (fun k m e e'=>by subst e;subst e';cases hx<;>cases hy<;>first | exact h2 _ _ rfl rfl | (simp [rS] at hg;done)) (VR.kn hx) (VR.kn hy)]
       rw[Sem.run_bind,this];rfl
     · simp at h
   · simp at h
 · simp at h
end Go.Ab
end
section
namespace Go.Ab
variable {E:Env}
theorem ab5 {φ:Ph} {op:UnOp} {x v:AV} (h:unA op x=some v) {x':Value} (hx:VR φ x x'):∃v',VR φ v v'∧∀w,(Op.unary op x').run E.P w= .ok v' w:=by
 unfold unA at h
 split at h
 · cases hx;simp at h;subst h;exact ⟨_,.int _ _,fun w=>by simp [Op.unary,Op.intArith]⟩
 · cases hx;simp at h;subst h;exact ⟨_,.int _ _,fun w=>by simp [Op.unary,Op.intBits]⟩
 · cases hx;simp at h;subst h;exact ⟨_,.bool _,fun w=>by simp [Op.unary]⟩
 · simp at h
theorem Ah {φ:Ph} {x:AV} {y n:Nat} (h:z8 x y=some n) {x':Value} (hx:VR φ x x') {y':Nat} (hy:y≤y') (code:BoundsCode):
 (∀w,(Instr.sliceBound x' y' code).run E.P w= .ok n w)∧n≤y:=by
 unfold z8 at h
 split at h
 · split at h
   · rename_i hc
     cases hx
     simp at h;subst h
     refine ⟨fun w=>?_,by omega⟩
     simp only[Instr.sliceBound,asIntOf,Sem.run_bind,Sem.run_pure,Result.andThen_ok]
     rw[if_pos (by omega)];rfl
   · simp at h
 · simp at h
def QS (φ:Ph):Option AV→Option Value→Prop
 | none,none=>True
 | some x,some y=>VR φ x y
 | _,_=>False
theorem FD (isS:Bool) (len CV:Nat) (QT Im Io:Option Value):Instr.sliceBounds isS len CV QT Im Io=(do
 let m←(match Io with | some v=>Instr.sliceBound v CV (if isS then .slice3Acap else .slice3Alen) | none=>pure CV:Sem Nat)
 let h←(match Im,Io with | some v,some _=>Instr.sliceBound v m .slice3B | some v,none=>Instr.sliceBound v m (if isS then .sliceAcap else .sliceAlen) | none,none=>pure len | none,some _=>stuck "Slice: max without high" :Sem Nat)
 let l←(match QT with | some v=>Instr.sliceBound v h (if Io.isSome then .slice3C else .sliceB) | none=>pure 0:Sem Nat)
 pure (l,h,m)):=by
 unfold Instr.sliceBounds
 cases Io<;>cases Im<;>cases QT<;>rfl
theorem rU {φ:Ph} {len cap:Nat} {lo hi mx:Option AV} {l h m:Nat} (e:rT len cap lo hi mx=some (l,h,m)) {QT Im Io:Option Value}
 (DM:QS φ lo QT) (E8:QS φ hi Im) (hmx:QS φ mx Io) {CV:Nat} (hc:cap≤CV) (isS:Bool) (hlen:len≤cap):
 (∀w,(Instr.sliceBounds isS len CV QT Im Io).run E.P w= .ok (l,h,if mx.isNone then CV else m) w)∧l≤h∧h≤m∧m≤cap∧(mx=none→m=cap):=by
 unfold rT at e
 split at e
 · simp at e
 rename_i m0 hm0
 have hm:(∀w,(match Io with | some v=>Instr.sliceBound v CV (if isS then .slice3Acap else .slice3Alen) | none=>pure CV:Sem Nat).run E.P w= .ok (if mx.isNone then CV else m0) w)∧m0≤cap∧(mx=none→m0=cap):=by
  cases mx with
  | none=>
    cases Io with
    | some _=>exact hmx.elim
    | none=>simp at hm0;subst hm0;exact ⟨fun w=>rfl,Nat.le_refl _,fun _=>rfl⟩
  | some v=>
    cases Io with
    | none=>exact hmx.elim
    | some v'=>
      have:=fun code=>Ah (E:=E) hm0 (show VR φ v v' from hmx) hc code
      exact ⟨(this _).1,(this .index).2,fun e=>by simp at e⟩
 split at e
 · simp at e
 rename_i h0 hh0
 have aku:m0≤(if mx.isNone then CV else m0):=by split<;>omega
 have hh:(∀w,(match Im,Io with | some v,some _=>Instr.sliceBound v (if mx.isNone then CV else m0) .slice3B | some v,none=>Instr.sliceBound v (if mx.isNone then CV else m0) (if isS then .sliceAcap else .sliceAlen) | none,none=>pure len | none,some _=>stuck "Slice: max without high" :Sem Nat).run E.P w= .ok h0 w)∧h0≤m0:=by
  cases hi with
  | none=>
    cases Im with
    | some _=>exact E8.elim
    | none=>
      cases mx with
      | some _=>simp at hh0
      | none=>
        cases Io with
        | some _=>exact hmx.elim
        | none=>simp at hh0;subst hh0;exact ⟨fun w=>rfl,by have:=hm.2.2 rfl;omega⟩
  | some v=>
    cases Im with
    | none=>exact E8.elim
    | some v'=>
      have:=fun code=>Ah (E:=E) hh0 (show VR φ v v' from E8) aku code
      cases Io with
      | none=>exact ⟨(this _).1,(this .index).2⟩
      | some _=>exact ⟨(this _).1,(this .index).2⟩
 split at e
 · simp at e
 rename_i l0 I2
 simp at e
 obtain ⟨rfl,rfl,rfl⟩:=e
 have hl:(∀w,(match QT with | some v=>Instr.sliceBound v h0 (if Io.isSome then .slice3C else .sliceB) | none=>pure 0:Sem Nat).run E.P w= .ok l0 w)∧l0≤h0:=by
  cases lo with
  | none=>
    cases QT with
    | some _=>exact DM.elim
    | none=>simp at I2;subst I2;exact ⟨fun w=>rfl,by omega⟩
  | some v=>
    cases QT with
    | none=>exact DM.elim
    | some v'=>
      have:=fun code=>Ah (E:=E) I2 (show VR φ v v' from DM) (Nat.le_refl _) code
      exact ⟨(this _).1,(this .index).2⟩
 refine ⟨fun w=>?_,hl.2,hh.2,hm.2.1,hm.2.2⟩
 rw[FD,Sem.run_bind,hm.1 w,Result.andThen_ok,Sem.run_bind,hh.1 w,Result.andThen_ok,Sem.run_bind,hl.1 w]
 rfl
theorem xW (b o n:Nat):(⟨b,o,none⟩:Addr).add n=⟨b,o+n,none⟩:=Addr.add_mid b o n
theorem QU {φ:Ph} {t:TypeId} {x v:AV} {lo hi mx:Option AV} (e:aZ E t x lo hi mx=some v) {x':Value} {QT Im Io:Option Value}
 (hx:VR φ x x') (DM:QS φ lo QT) (E8:QS φ hi Im) (hmx:QS φ mx Io):∃v',VR φ v v'∧∀w,(Instr.sliceAt t x' QT Im Io).run E.P w= .ok v' w:=by
 unfold aZ at e
 split at e
 ·
  rename_i n elem i o hu
  cases hx with
  | @ptr _ l _ hφ=>
  split at e
  · rename_i l0 h0 m0 size hb hs
    simp at e;subst e
    obtain ⟨hr,h1,h2,h3,h4⟩:=rU (E:=E) hb DM E8 hmx (Nat.le_refl n) false (Nat.le_refl n)
    have hm:(if mx.isNone then n else m0)=m0:=by
     cases mx with
     | none=>simp [h4 rfl]
     | some _=>rfl
    rw[hm] at hr
    refine ⟨_,.slice (if m0=l0 then o else o+l0*size) (h0 - l0) (m0 - l0) false hφ,fun w=>?_⟩
    simp only[Instr.sliceAt,Sem.run_bind,run_underlying hu,Result.andThen_ok,Instr.sureAddr,Sem.run_pure,hr w,dN hs,gC,Bool.false_eq_true,if_false]
    by_cases hml:m0=l0
    · simp [hml]
    · simp only[hml,if_false,xW];rw[Nat.add_assoc]
  · simp at e
 ·
  rename_i s hu
  split at e
  · rename_i l0 h0 m0 hb
    simp at e;subst e
    generalize hs:s=s0 at hx hb
    cases hx with
    | str s'=>
    subst hs
    have e1:s'.size=s'.data.toList.length:=by cases s';rfl
    cases Io with
    | some _=>exact hmx.elim
    | none=>
    obtain ⟨hr,h1,h2,h3,h4⟩:=rU (E:=E) (mx:=none) (Io:=none) hb DM E8 trivial (Nat.le_refl _) false (Nat.le_refl _)
    refine ⟨.string (s'.extract l0 h0),?_,fun w=>?_⟩
    · have:=VR.str (φ:=φ) (s'.extract l0 h0)
      have e2:(s'.extract l0 h0).data.toList=(s'.data.toList.drop l0).take (h0 - l0):=by
       exact Lib.extract_data s' l0 h0
      rw[e2] at this;exact this
    · have Xp:=hr w
      rw[←e1] at Xp
      simp only[Instr.sliceAt,Instr.slice,Sem.run_bind,run_underlying hu,Result.andThen_ok,Option.isSome_none,Bool.false_eq_true,if_false,Xp,Sem.run_pure]
  · simp at e
 ·
  rename_i elem hu
  cases hx
  split at e
  · rename_i r size hb hs
    simp at e;subst e
    obtain ⟨l0,h0,m0⟩:=r
    obtain ⟨hr,h1,h2,h3,h4⟩:=rU (E:=E) hb DM E8 hmx (Nat.le_refl _) true (Nat.le_refl _)
    have hm:(if mx.isNone then 0 else m0)=0:=by split<;>omega
    rw[hm] at hr
    refine ⟨_,.ax,fun w=>?_⟩
    obtain rfl:l0=0:=by omega
    obtain rfl:h0=0:=by omega
    simp only[Instr.sliceAt,Instr.slice,Sem.run_bind,run_underlying hu,Result.andThen_ok,hr w,dN hs,if_true,Sem.run_pure]
  · simp at e
 · rename_i elem i o len cap op hu
   cases hx with
   | @slice _ l _ _ _ _ hφ=>
   split at e
   · rename_i hlc
     split at e
     · rename_i l0 h0 m0 size hb hs
       have hcc:cap≤gC op cap l.iZ:=by unfold gC;split<;>omega
       obtain ⟨hr,h1,h2,h3,h4⟩:=rU (E:=E) hb DM E8 hmx hcc true hlc
       have run:∀w,(Instr.sliceAt t (.slice (some ⟨l.fO,l.off+o,none⟩) len (gC op cap l.iZ)) QT Im Io).run E.P w=
        .ok (.slice (if (if mx.isNone then gC op cap l.iZ else m0)=l0 then some ⟨l.fO,l.off+o,none⟩ else some ⟨l.fO,l.off+o+l0*size,none⟩) (h0 - l0) ((if mx.isNone then gC op cap l.iZ else m0) - l0)) w:=fun w=>by
        simp only[Instr.sliceAt,Instr.slice,Sem.run_bind,run_underlying hu,Result.andThen_ok,hr w,dN hs,Sem.run_pure,Option.map_some,xW]
       split at e
       · rename_i hml
         split at e
         · rename_i rH
           have hmn:mx.isNone=true:=by simp at rH;simpa using rH.2
           simp only[Option.some.injEq] at e;subst e
           have e0:h0 - l0=0:=by omega
           rw[e0] at run
           by_cases hq:(if mx.isNone then gC op cap l.iZ else m0)=l0
           · exact ⟨_,.im _ _,fun w=>by rw[run w,if_pos hq]⟩
           · exact ⟨_,.im _ _,fun w=>by rw[run w,if_neg hq]⟩
         · rename_i rH
           simp at e;subst e
           have Qi:(if mx.isNone then gC op cap l.iZ else m0)=m0:=by
            cases hmn:mx with
            | none=>subst hmn;simp at rH;subst rH;simp [gC,h4 rfl]
            | some _=>rfl
           rw[Qi,if_pos hml] at run
           exact ⟨_,.slice o (h0 - l0) (m0 - l0) false hφ,run⟩
       · rename_i hml
         simp only[Option.some.injEq] at e;subst e
         have cR:¬(if mx.isNone then gC op cap l.iZ else m0)=l0:=by
          split
          · rename_i hmn;have:=h4 (by simpa using hmn);omega
          · exact hml
         rw[if_neg cR,Nat.add_assoc] at run
         refine ⟨_,?_,run⟩
         have:=VR.slice (φ:=φ) (o+l0*size) (h0 - l0) (m0 - l0) (op&&mx.isNone) hφ
         have e2:gC (op&&mx.isNone) (m0 - l0) l.iZ=(if mx.isNone then gC op cap l.iZ else m0) - l0:=by
          cases hmn:mx with
          | none=>
            have h5:=h4 hmn
            cases op with
            | true=>simp [gC];omega
            | false=>simp [gC];omega
          | some _=>simp [gC]
         rw[e2] at this;exact this
     · simp at e
   · simp at e
 · simp at e
end Go.Ab
end
section
namespace Go.Ab
variable {E:Env}
theorem s_:∀(l:List Value) (k off:Nat) (C:Array Value),(l.zipIdx k).foldl (fun cs (x:Value×Nat)=>cs.setIfInBounds (off+x.2) x.1) C=j4 C (off+k) l
 | [],_,_,_=>rfl
 | v::vs,k,off,C=>by
   rw[List.zipIdx_cons,List.foldl_cons,s_ vs (k+1) off,j4,Nat.add_assoc]
theorem LR.setFrom {φ:Ph}:∀{vs:List AV} {sK:List Value} (_:LR φ vs sK) {cs:List AV} {C:Array Value} (_:LR φ cs C.toList) (o:Nat),LR φ (Ab.setFrom cs o vs) (j4 C o sK).toList
 | [],sK,hv,cs,C,hc,o=>by rw[hv.fR];exact hc
 | v::vs,sK,hv,cs,C,hc,o=>by
   obtain ⟨y,ys,rfl,hy,A_⟩:=hv.eN
   rw[Ab.setFrom,j4]
   refine LR.setFrom A_ ?_ (o+1)
   rw[Array.toList_setIfInBounds]
   exact hc.set hy o
def PR (φ:Ph) (ps:List (Nat×AV)) (qs:List (Nat×Value)):Prop:=ps.length=qs.length∧∀(i:Nat) (x:Nat×AV) (y:Nat×Value),ps[i]? =some x→qs[i]? =some y→x.1=y.1∧VR φ x.2 y.2
theorem PR.eN {φ:Ph} {x:Nat×AV} {xs:List (Nat×AV)} {ys:List (Nat×Value)} (h:PR φ (x::xs) ys):∃y Il,ys=y::Il∧(x.1=y.1∧VR φ x.2 y.2)∧PR φ xs Il:=by
 obtain ⟨hl,hv⟩:=h
 cases ys with
 | nil=>simp at hl
 | cons y ys=>exact ⟨y,ys,rfl,hv 0 x y (by simp) (by simp),by simpa using hl,fun i a b ha hb=>hv (i+1) a b (by simpa using ha) (by simpa using hb)⟩
theorem CW {φ:Ph} (hg:GL E φ) {ts:List AV} {a:Act} (ht:LR φ ts a.tmps.toList):∀{l:List (Nat×Operand)} {r:List (Nat×AV)} (_:mu E ts l=some r),PR φ r (l.map fun (i,x)=>(i,a.eval x))
 | [],r,h=>by simp [mu] at h;subst h;exact ⟨rfl,fun i x y hx _=>by simp at hx⟩
 | (i,o)::rest,r,h=>by
   simp only[mu] at h
   cases hv:eW E ts o with
   | none=>simp [hv] at h
   | some v=>
     simp only[hv] at h
     cases hr:mu E ts rest with
     | none=>simp [hr] at h
     | some l=>
       simp only[hr,Option.some.injEq] at h;subst h
       obtain ⟨h1,h2⟩:=CW hg ht hr
       refine ⟨by simpa using h1,fun j x y hx hy=>?_⟩
       cases j with
       | zero=>simp at hx hy;subst hx;subst hy;exact ⟨rfl,oI hg ht hv⟩
       | succ j=>simp at hx;exact h2 j x y hx (by simpa using hy)
theorem xX {φ:Ph} {place:Nat→Option (Nat×Nat)}:∀{ps:List (Nat×AV)} {qs:List (Nat×Value)} (_:PR φ ps qs) {cs i_:List AV} {C:Array Value} (_:LR φ cs C.toList) (_:Fu place cs ps=some i_),
 ∃C',Instr.fill place C qs=some C'∧LR φ i_ C'.toList
 | [],qs,hp,cs,i_,C,hc,h=>by
   cases qs with
   | nil=>simp [Fu] at h;subst h;exact ⟨C,rfl,hc⟩
   | cons q qs=>simp [PR] at hp
 | (i,v)::rest,qs,hp,cs,i_,C,hc,h=>by
   obtain ⟨⟨j,v'⟩,qs',rfl,⟨he,hv⟩,qd⟩:=hp.eN
   simp only at he hv;subst he
   simp only[Fu] at h
   simp only[Instr.fill]
   cases U4:place i with
   | none=>simp [U4] at h
   | some x=>
     obtain ⟨off,size⟩:=x
     simp only[U4] at h ⊢
     split at h
     · rename_i ab6
       have Xq:=hv.cells
       have hl:v'.cells.size=size:=by have:=Xq.1;simp at this;omega
       have WQ:C.size=cs.length:=by have:=hc.1;simp at this;omega
       have DK:(decide (v'.cells.size≠size)||decide (off+v'.cells.size>C.size))=false:=by
        simp only[Bool.or_eq_false_iff,decide_eq_false_iff_not];omega
       simp only[DK,Bool.false_eq_true,if_false]
       have ahh:(v'.cells.zipIdx.foldl (fun cs (x:Value×Nat)=>cs.setIfInBounds (off+x.2) x.1) C)=j4 C off v'.cells.toList:=by
        rw[←Array.foldl_toList]
        have:=s_ v'.cells.toList 0 off C
        simpa using this
       rw[ahh]
       exact xX qd (LR.setFrom Xq hc off) h
     · simp at h
theorem QV {φ:Ph} {t:TypeId} {ps:List (Nat×AV)} {v:AV} (h:sF E t ps=some v) {qs:Array (Nat×Value)} (hp:PR φ ps qs.toList):
 ∃v',VR φ v v'∧∀w,(Instr.build t qs).run E.P w= .ok v' w:=by
 unfold sF at h
 split at h
 · simp at h
 rename_i z hz
 obtain ⟨z',Ig,my⟩:=jN hz
 split at h
 · rename_i fs hu
   split at h
   · simp at h
   rename_i pl U4
   split at h
   · rename_i cs hf
     simp at h;subst h
     have places:∀w,(fs.mapM fun f=>do pure (f.offset,←sizeOf f.type):Sem (Array (Nat×Nat))).run E.P w= .ok pl.toArray w:=by
      intro w
      have key:∀(l:List Field) (r:List (Nat×Nat)),fv (fun f=>match bK E f.type with | some n=>some (f.offset,n) | none=>none) l=some r→
       (l.mapM fun f=>do pure (f.offset,←sizeOf f.type):Sem (List (Nat×Nat))).run E.P w= .ok r w:=by
       intro l
       induction l with
       | nil=>intro r hr;simp [fv] at hr;subst hr;rfl
       | cons f l ih=>
         intro r hr
         simp only[fv] at hr
         cases hs:bK E f.type with
         | none=>simp [hs] at hr
         | some n=>
           simp only[hs] at hr
           cases hm:fv (fun f=>match bK E f.type with | some n=>some (f.offset,n) | none=>none) l with
           | none=>simp [hm] at hr
           | some ys=>
             simp only[hm,Option.some.injEq] at hr;subst hr
             simp only[List.mapM_cons,Sem.run_bind,dN hs,Result.andThen_ok,Sem.run_pure,ih ys hm]
      have:=key fs.toList pl U4
      have hh:(fs.mapM fun f=>do pure (f.offset,←sizeOf f.type):Sem (Array (Nat×Nat)))=(do pure (←(fs.toList.mapM fun f=>do pure (f.offset,←sizeOf f.type):Sem (List (Nat×Nat)))).toArray):=by
       rw[Array.mapM_eq_mapM_toList];rfl
      rw[hh,Sem.run_bind,this];rfl
     obtain ⟨C',DN,Ip⟩:=xX (place:=(pl[·]?)) hp (cs:=z.cells) (C:=z'.cells) (Ig φ).cells hf
     refine ⟨.agg C',by have:=VR.U2 Ip;simpa using this,fun w=>?_⟩
     simp only[Instr.build,Sem.run_bind,my,Result.andThen_ok,run_underlying hu,places w]
     simp [DN]
   · simp at h
 · rename_i n elem hu
   split at h
   · simp at h
   rename_i n hn
   split at h
   · rename_i cs hf
     simp at h;subst h
     obtain ⟨C',DN,Ip⟩:=xX (place:=fun i=>some (i*n,n)) hp (cs:=z.cells) (C:=z'.cells) (Ig φ).cells hf
     refine ⟨.agg C',by have:=VR.U2 Ip;simpa using this,fun w=>?_⟩
     simp [Instr.build,Sem.run_bind,my,run_underlying hu,dN hn,DN]
   · simp at h
 · simp at h
theorem L7 {φ:Ph}:∀{l:List AV} {x v:AV} (_:QH x l=some v) {x':Value} (_:VR φ x x') {l':List Value} (_:LR φ l l'),∃v',VR φ v v'∧∀w,(l'.foldlM Builtin.max2 x').run E.P w= .ok v' w
 | [],x,v,h,x',hx,l',hl=>by
   rw[hl.fR]
   cases x<;>simp [QH] at h
   subst h;exact ⟨x',hx,fun w=>rfl⟩
 | y::ys,x,v,h,x',hx,l',hl=>by
   obtain ⟨y',Il,rfl,hy,A_⟩:=hl.eN
   cases x<;>(try (simp [QH] at h;done))
   cases y<;>(try (simp [QH] at h;done))
   cases hx;cases hy
   simp only[QH] at h
   obtain ⟨v',hv,hr⟩:=L7 h (.int _ _) A_
   refine ⟨v',hv,fun w=>?_⟩
   simp only[List.foldlM_cons,Builtin.max2,Sem.run_bind,Sem.run_pure,Result.andThen_ok,hr w]
theorem L8 {φ:Ph}:∀{l:List AV} {x v:AV} (_:QI x l=some v) {x':Value} (_:VR φ x x') {l':List Value} (_:LR φ l l'),∃v',VR φ v v'∧∀w,(l'.foldlM Builtin.min2 x').run E.P w= .ok v' w
 | [],x,v,h,x',hx,l',hl=>by
   rw[hl.fR]
   cases x<;>simp [QI] at h
   subst h;exact ⟨x',hx,fun w=>rfl⟩
 | y::ys,x,v,h,x',hx,l',hl=>by
   obtain ⟨y',Il,rfl,hy,A_⟩:=hl.eN
   cases x<;>(try (simp [QI] at h;done))
   cases y<;>(try (simp [QI] at h;done))
   cases hx;cases hy
   simp only[QI] at h
   obtain ⟨v',hv,hr⟩:=L8 h (.int _ _) A_
   refine ⟨v',hv,fun w=>?_⟩
   simp only[List.foldlM_cons,Builtin.min2,Sem.run_bind,Sem.run_pure,Result.andThen_ok,hr w]
theorem map_toArray (f:Operand→Value) (l:Array Operand):l.map f=(l.toList.map f).toArray:=by apply Array.ext';simp
def adO (E:Env):Prop:=∀f e,E.uq f=some e→∀vs r,e vs=some r→∀φ (sK:List Value),LR φ vs sK→
 ∃r',VR φ r r'∧∀w,(callFunc f sK.toArray).run E.P w= .ok (.value r') w
theorem fJ {s:Sem Value} {v:Value} {P:Program} {w w':World} (h:s.run P w= .ok v w'):(do pure (.value (←s)):Sem Next).run P w= .ok (.value v) w':=by
 rw[Sem.run_bind,h];rfl
theorem Ka {φ:Ph} (hg:GL E φ) {ts:List AV} {a:Act} (ht:LR φ ts a.tmps.toList) {o:Option Operand} {r:Option AV} (h:pY E ts o=some r):QS φ r (o.map a.eval):=by
 cases o with
 | none=>simp [pY] at h;subst h;trivial
 | some o=>
   simp only[pY] at h
   split at h
   · rename_i v hv;simp at h;subst h;exact oI hg ht hv
   · simp at h
theorem v7 {P:Program} {t:TypeId} {d:TypeDesc} (hu:P.underlying t=some d) (hd:∀m,d= .interface m→False) (v:Value) (xT:TypeId) (ok:Bool) (w:World):
 (Instr.typeAssert (.iface t v) xT t ok).run P w= .ok (if ok then .tuple #[v,.bool true] else v) w:=by
 rw[Instr.typeAssert,Sem.run_bind,run_underlying hu]
 cases d<;>first | (exact (hd _ rfl).elim) | (simp;done)
theorem EH {P:Program} {t u:TypeId} {d:TypeDesc} (hu:P.underlying t=some d) (hd:∀m,d= .interface m→False) (v:Value) (xT:TypeId) (cR:u≠t) {z:Value} (w:World) (hz:(zeroValue t).run P w= .ok z w):
 (Instr.typeAssert (.iface u v) xT t true).run P w= .ok (.tuple #[z,.bool false]) w:=by
 rw[Instr.typeAssert,Sem.run_bind,run_underlying hu]
 cases d<;>first | (exact (hd _ rfl).elim) | (simp [cR,hz];done)
theorem FE {P:Program} {t:TypeId} {d:TypeDesc} (hu:P.underlying t=some d) (hd:∀m,d= .interface m→False) (xT:TypeId) {z:Value} (w:World) (hz:(zeroValue t).run P w= .ok z w):
 (Instr.typeAssert .nilIface xT t true).run P w= .ok (.tuple #[z,.bool false]) w:=by
 rw[Instr.typeAssert,Sem.run_bind,run_underlying hu]
 cases d<;>first | (exact (hd _ rfl).elim) | (simp [hz];done)
set_option maxHeartbeats 1000000 in
theorem DP (ahi:adO E) {φ:Ph} (hg:GL E φ) {ts:List AV} {a:Act} (ht:LR φ ts a.tmps.toList) {o:Oper} {v:AV} (h:ct E ts o.op=some v):
 ∃v',VR φ v v'∧∀w,(execOp a.eval o).run E.P w= .ok (.value v') w:=by
 have ev:∀{x:Operand} {v:AV},eW E ts x=some v→VR φ v (a.eval x):=fun h=>oI hg ht h
 unfold execOp
 generalize o.op=op at h ⊢
 unfold ct at h
 split at h
 · exact ⟨_,ev h,fun w=>rfl⟩
 · exact ⟨_,ev h,fun w=>rfl⟩
 ·
  split at h
  · rename_i hc
    have:=ev hc
    generalize mo:a.eval _=cv at this
    cases this
    exact ⟨_,ev h,fun w=>by simp [mo,asBool]⟩
  · rename_i hc
    have:=ev hc
    generalize mo:a.eval _=cv at this
    cases this
    exact ⟨_,ev h,fun w=>by simp [mo,asBool]⟩
  · simp at h
 ·
  rename_i t parts
  split at h
  · rename_i ps hps
    have hp:=CW hg ht hps
    obtain ⟨v',hv,hr⟩:=QV (φ:=φ) h (qs:=parts.map fun (i,x)=>(i,a.eval x)) (by simpa using hp)
    exact ⟨v',hv,fun w=>fJ (hr w)⟩
  · simp at h
 ·
  split at h<;>(try (simp at h;done))
  all_goals
   rename_i hx
   have:=ev hx
   generalize mo:a.eval _=cv at this
   cases this
   simp only[Option.some.injEq] at h;subst h
   first
    | exact ⟨_,.ptr _ ‹_›,fun w=>by simp [mo]⟩
    | exact ⟨_,.map ‹_›,fun w=>by simp [mo]⟩
    | exact ⟨_,.slice _ _ _ _ ‹_›,fun w=>by simp [mo]⟩
    | exact ⟨_,.func _ _ _ _ _ ‹_› ‹_› ‹_› ‹_›,fun w=>by simp [mo]⟩
 ·
  split at h
  · rename_i hx hy
    obtain ⟨v',hv,hr⟩:=Xo h (ev hx) (ev hy)
    exact ⟨v',hv,fun w=>fJ (hr w)⟩
  · simp at h
 ·
  split at h
  · rename_i hx
    obtain ⟨v',hv,hr⟩:=ab5 (E:=E) h (ev hx)
    exact ⟨v',hv,fun w=>fJ (hr w)⟩
  · simp at h
 ·
  split at h
  · rename_i hs hd hx
    have:=ev hx
    generalize mo:a.eval _=cv at this
    cases this
    simp at h;subst h
    refine ⟨_,.int _ _,fun w=>fJ ?_⟩
    simp [mo,convert,run_underlying hs,run_underlying hd,Conv.intToInt]
  · rename_i d s hs hd hx
    have:=ev hx
    generalize mo:a.eval _=cv at this
    simp at h;subst h
    generalize QW:s=s0 at this
    cases this
    subst QW
    refine ⟨_,.str _,fun w=>fJ ?_⟩
    simp [mo,convert,run_underlying hs,run_underlying hd]
  · rename_i d k n hs hd hx
    have:=ev hx
    generalize mo:a.eval _=cv at this
    cases this
    unfold E5 at h
    split at h
    · rename_i h0
      simp at h;subst h
      have he:Utf8.encode n=⟨#[UInt8.ofNat n.toNat]⟩:=by
       have hv:Utf8.valid n=true:=by simp [Utf8.valid];omega
       have h1:n.toNat<0x80:=by omega
       simp [Utf8.encode,hv,h1]
      refine ⟨.string ⟨#[UInt8.ofNat n.toNat]⟩,.str ⟨#[UInt8.ofNat n.toNat]⟩,fun w=>fJ ?_⟩
      rw[←he]
      cases d<;>simp [mo,convert,run_underlying hs,run_underlying hd,Conv.intToString]
    · simp at h
  · simp at h
 ·
  split at h
  · simp at h
  · rename_i d v0 hn hu hx
    simp at h;subst h
    refine ⟨_,.iface _ _ _ (ev hx),fun w=>fJ ?_⟩
    rw[Instr.makeInterface,Sem.run_bind,run_underlying hu]
    cases d<;>first | (exact (hn _ rfl).elim) | rfl
  · simp at h
 ·
  rename_i f first captured
  split at h
  · rename_i ha hb
    simp at h;subst h
    have h1:=ir hg ht ha
    have h2:=ir hg ht hb
    refine ⟨.func (.func f) (first.map a.eval) (captured.map a.eval),?_,fun w=>fJ rfl⟩
    rw[map_toArray,map_toArray]
    exact VR.Tc f h1 h2
  · simp at h
 ·
  split at h
  · rename_i hx hl hh hm
    obtain ⟨v',hv,hr⟩:=QU h (ev hx) (Ka hg ht hl) (Ka hg ht hh) (Ka hg ht hm)
    exact ⟨v',hv,fun w=>fJ (hr w)⟩
  · simp at h
 ·
  split at h
  · rename_i fd i o0 hf hx
    split at h
    · rename_i n hn
      split at h
      · simp at h
      · rename_i hn0
        simp at h;subst h
        have:=ev hx
        generalize mo:a.eval _=cv at this
        cases this with
        | @ptr _ l _ hφ=>
        refine ⟨_,.ptr _ hφ,fun w=>fJ ?_⟩
        unfold A7 at hf
        split at hf
        · rename_i fs hu
          simp [mo,Instr.fieldAt,run_underlying hu,hf,Instr.sureAddr,fieldPlace,dN hn,hn0,xW,Nat.add_assoc]
        · simp at hf
    · simp at h
  · simp at h
 ·
  split at h
  · rename_i fd cs hf hx
    have:=ev hx
    generalize mo:a.eval _=cv at this
    obtain ⟨i_,rfl,Ip⟩:=this.pj
    obtain ⟨v',hv,hr⟩:=xU Ip h
    refine ⟨v',hv,fun w=>fJ ?_⟩
    unfold A7 at hf
    split at hf
    · rename_i fs hu
      have:=hr w
      simp [mo,Instr.field,run_underlying hu,hf,asAgg] at this ⊢
      exact this
    · simp at hf
  · simp at h
 ·
  split at h
  · rename_i len elem i o0 k n hu hx hi
    split at h
    · rename_i size hs
      split at h
      · rename_i hb
        simp at h;subst h
        have h1:=ev hx
        have h2:=ev hi
        generalize mo:a.eval _=cv at h1
        generalize hcw:a.eval _=cw at h2
        cases h1 with
        | @ptr _ l _ hφ=>
        cases h2
        refine ⟨_,.ptr _ hφ,fun w=>fJ ?_⟩
        simp [mo,hcw,Instr.indexAt,asIntOf,run_underlying hu,Instr.sureAddr,hb,dN hs,xW,Nat.add_assoc]
      · simp at h
    · simp at h
  · rename_i elem i o0 len cap op k n hu hx hi
    split at h
    · rename_i size hs
      split at h
      · rename_i hb
        simp at h;subst h
        have h1:=ev hx
        have h2:=ev hi
        generalize mo:a.eval _=cv at h1
        generalize hcw:a.eval _=cw at h2
        cases h1 with
        | @slice _ l _ _ _ _ hφ=>
        cases h2
        refine ⟨_,.ptr _ hφ,fun w=>fJ ?_⟩
        simp [mo,hcw,Instr.indexAt,asIntOf,run_underlying hu,hb,dN hs,xW,Nat.add_assoc]
      · simp at h
    · simp at h
  · simp at h
 ·
  split at h
  · rename_i len elem cs k n hu hx hi
    split at h
    · rename_i size hs
      split at h
      · rename_i hb
        have h1:=ev hx
        have h2:=ev hi
        generalize mo:a.eval _=cv at h1
        generalize hcw:a.eval _=cw at h2
        obtain ⟨i_,rfl,Ip⟩:=h1.pj
        cases h2
        obtain ⟨v',hv,hr⟩:=xU Ip h
        refine ⟨v',hv,fun w=>fJ ?_⟩
        have:=hr w
        simp [mo,hcw,Instr.index,asIntOf,run_underlying hu,hb,dN hs] at this ⊢
        exact this
      · simp at h
    · simp at h
  · rename_i s k n hu hx hi
    split at h
    · rename_i hn
      split at h
      · rename_i b hb
        simp at h;subst h
        have h1:=ev hx
        have h2:=ev hi
        generalize mo:a.eval _=cv at h1
        generalize hcw:a.eval _=cw at h2
        generalize QW:s=s0 at h1
        cases h1 with
        | str s'=>
        subst QW
        cases h2
        refine ⟨_,.int _ _,fun w=>fJ ?_⟩
        have hb':s'[n.toNat]? =some b:=by
         have:s'.data[n.toNat]? =some b:=by simpa using hb
         rw[←this];rfl
        simp [mo,hcw,Instr.index,asIntOf,run_underlying hu,hn,hb']
      · simp at h
    · simp at h
  · simp at h
 ·
  split at h
  · rename_i vs hx
    have h1:=ev hx
    generalize mo:a.eval _=cv at h1
    obtain ⟨sK,rfl,Ip⟩:=h1.IX
    obtain ⟨y,hy,hv⟩:=Ip.get h
    refine ⟨y,hv,fun w=>fJ ?_⟩
    simp at hy
    simp [mo,Instr.extract,hy]
  · simp at h
 ·
  split at h
  · simp at h
  · rename_i d t v0 hn hu hx
    have h1:=ev hx
    generalize mo:a.eval _=cv at h1
    cases h1 with
    | iface _ _ v1 hv1=>
    split at h
    · rename_i hta
      subst hta
      simp at h;subst h
      split
      · rename_i rJ
        refine ⟨.tuple #[v1,.bool true],VR.tuple' (i_:=[v1,.bool true]) (.cons hv1 (.cons (.bool true) (.nil φ))),fun w=>fJ ?_⟩
        rw[mo,v7 hu hn,rJ];rfl
      · rename_i rJ
        refine ⟨v1,hv1,fun w=>fJ ?_⟩
        rw[mo,v7 hu hn];simp [rJ]
    · rename_i hta
      split at h
      · rename_i rJ
        split at h
        · rename_i z hz
          simp at h;subst h
          obtain ⟨z',Ig,my⟩:=jN hz
          refine ⟨.tuple #[z',.bool false],VR.tuple' (i_:=[z',.bool false]) (.cons (Ig φ) (.cons (.bool false) (.nil φ))),fun w=>fJ ?_⟩
          rw[mo,rJ];exact EH hu hn _ _ hta w (my w)
        · simp at h
      · simp at h
  · rename_i d hn hu hx
    have h1:=ev hx
    generalize mo:a.eval _=cv at h1
    cases h1
    split at h
    · rename_i rJ
      split at h
      · rename_i z hz
        simp at h;subst h
        obtain ⟨z',Ig,my⟩:=jN hz
        refine ⟨.tuple #[z',.bool false],VR.tuple' (i_:=[z',.bool false]) (.cons (Ig φ) (.cons (.bool false) (.nil φ))),fun w=>fJ ?_⟩
        rw[mo,rJ];exact FE hu hn _ w (my w)
      · simp at h
    · simp at h
  · simp at h
 ·
  split at h
  · rename_i t v0 WR QX
    have hl:=ir hg ht QX
    obtain ⟨y,ys,A_,hy,FH⟩:=hl.eN
    rw[FH.fR] at A_
    have Ba:∀(args:Array Operand),args.toList.map a.eval=[y]→args.map a.eval= #[y]:=fun args e=>by rw[map_toArray,e]
    have h0:=Ba _ A_
    split at h<;>(try (simp at h;done))
    all_goals
     rename_i hu
     simp only[Option.some.injEq] at h;subst h
    · generalize QW:AV.str _=s0 at hy
      cases hy<;>cases QW
      rename_i s'
      refine ⟨_,.int _ _,fun w=>?_⟩
      simp [resolve,invoke,builtin,h0,Builtin.len_,WR,run_underlying hu,goInt]
      try rfl
    · refine ⟨_,.int _ _,fun w=>?_⟩
      simp [resolve,invoke,builtin,h0,Builtin.len_,WR,run_underlying hu,goInt]
    · cases hy
      refine ⟨_,.int _ _,fun w=>?_⟩
      simp [resolve,invoke,builtin,h0,Builtin.len_,WR,run_underlying hu,goInt]
    · cases hy
      refine ⟨_,.int _ _,fun w=>?_⟩
      simp [resolve,invoke,builtin,h0,Builtin.len_,WR,run_underlying hu,goInt]
    · cases hy
      refine ⟨_,.int _ _,fun w=>?_⟩
      simp [resolve,invoke,builtin,h0,Builtin.len_,WR,run_underlying hu,goInt]
    · cases hy
      refine ⟨_,.int _ _,fun w=>?_⟩
      simp [resolve,invoke,builtin,h0,Builtin.len_,WR,run_underlying hu,goInt]
  · simp at h
 ·
  split at h
  · rename_i t v0 WR QX
    have hl:=ir hg ht QX
    obtain ⟨y,ys,A_,hy,FH⟩:=hl.eN
    rw[FH.fR] at A_
    have Ba:∀(args:Array Operand),args.toList.map a.eval=[y]→args.map a.eval= #[y]:=fun args e=>by rw[map_toArray,e]
    have h0:=Ba _ A_
    split at h<;>(try (simp at h;done))
    all_goals
     rename_i hu
     simp only[Option.some.injEq] at h;subst h
    · refine ⟨_,.int _ _,fun w=>?_⟩
      simp [resolve,invoke,builtin,h0,Builtin.cap_,WR,run_underlying hu,goInt]
    · cases hy
      refine ⟨_,.int _ _,fun w=>?_⟩
      simp [resolve,invoke,builtin,h0,Builtin.cap_,WR,run_underlying hu,goInt]
    · cases hy
      refine ⟨_,.int _ _,fun w=>?_⟩
      simp [resolve,invoke,builtin,h0,Builtin.cap_,WR,run_underlying hu,goInt,gC]
  · simp at h
 ·
  rename_i args _
  split at h
  · rename_i x rest QX
    have hl:=ir hg ht QX
    obtain ⟨y,ys,A_,hy,qd⟩:=hl.eN
    obtain ⟨v',hv,hr⟩:=L7 (E:=E) h hy qd
    refine ⟨v',hv,fun w=>?_⟩
    have h0:args.map a.eval=(y::ys).toArray:=by rw[map_toArray,A_]
    have:=hr w
    simp [resolve,invoke,builtin,h0,Builtin.max_,this]
  · simp at h
 ·
  rename_i args _
  split at h
  · rename_i x rest QX
    have hl:=ir hg ht QX
    obtain ⟨y,ys,A_,hy,qd⟩:=hl.eN
    obtain ⟨v',hv,hr⟩:=L8 (E:=E) h hy qd
    refine ⟨v',hv,fun w=>?_⟩
    have h0:args.map a.eval=(y::ys).toArray:=by rw[map_toArray,A_]
    have:=hr w
    simp [resolve,invoke,builtin,h0,Builtin.min_,this]
  · simp at h
 ·
  rename_i f args _
  split at h
  · rename_i e vs he QX
    have hl:=ir hg ht QX
    obtain ⟨r',hr,iH⟩:=ahi f e he vs v h φ _ hl
    refine ⟨r',hr,fun w=>?_⟩
    have:=iH w
    rw[←map_toArray] at this
    simpa [resolve,Deferred.ofValue,invoke,Act.eval] using this
  · simp at h
 · simp at h
end Go.Ab
end
section
namespace Go.Ab
variable {E:Env}
theorem OK.cells {φ:Ph} {h:ah} {w:World} (ok:OK E φ h w) {i:Nat} {cs:List AV} {e:TypeId} {ro:Bool} (hg:h.get i=some (.cells cs e ro)) {l:Loc} (hl:φ i=some l):
 ∃C e' lo hi,w.heap[l.fO]? =some (.cells C e' (lo,hi))∧CR E φ cs e ro l C lo hi:=by
 exact ok.live i _ l hg hl
theorem I3 {φ:Ph} {h:ah} {w:World} (ok:OK E φ h w) {t:TypeId} {av v:AV} {v':Value} (hv:VR φ av v') (e:bk E h t av=some v):
 ∃x',VR φ v x'∧∀w',w'.heap=w.heap→(Instr.loadAt t v').run E.P w'= .ok x' w':=by
 unfold bk at e
 split at e
 · rename_i i o
   cases hv with
   | @ptr _ l _ hφ=>
   split at e
   · rename_i cs el ro hg
     obtain ⟨C,e',lo,hi,hb,hc⟩:=ok.cells hg hφ
     unfold jX at e
     split at e
     · rename_i ha
       split at e
       · rename_i n hn
         split at e
         · rename_i hle
           simp at e;subst e
           obtain ⟨vs,hvl,WS,Ip⟩:=hc.range o n hle
           refine ⟨.agg vs.toArray,VR.U2 Ip,fun w' hw'=>?_⟩
           rw[←hw'] at hb
           have yU:=pn (P:=E.P) hb (l.off+o) vs WS
           rw[hvl] at yU
           simp only[Instr.loadAt,Instr.sureAddr,Sem.run_bind,Sem.run_pure,Result.andThen_ok,loadVar,uy ha,if_true,dN hn,yU]
         · simp at e
       · simp at e
     · rename_i ha
       obtain ⟨y,hy,hr⟩:=hc.val o v e
       refine ⟨y,hr,fun w' hw'=>?_⟩
       rw[←hw'] at hb
       simp only[Instr.loadAt,Instr.sureAddr,Sem.run_bind,Sem.run_pure,Result.andThen_ok,loadVar,uy ha,Bool.false_eq_true,if_false,run_load,ux hb,hy]
     · simp at e
   · simp at e
 · simp at e
theorem L9 {P:Program} (l:List Int):∀(vs:List Value) (acc:ByteArray) (w:World),vs=l.map (fun n=>Value.int .u8 n)→
 (forIn vs acc (fun c s=>(match c with | .int .u8 n=>do pure (ForInStep.yield (s.push (UInt8.ofNat n.toNat))) | _=>do stuck "bytesToString: byte expected";pure (ForInStep.yield s):Sem (ForInStep ByteArray)))).run P w= .ok ⟨(acc.data.toList++l.map (fun n=>UInt8.ofNat n.toNat)).toArray⟩ w:=by
 induction l with
 | nil=>intro vs acc w h;simp at h;subst h;simp [List.forIn_nil]
 | cons b l ih=>
   intro vs acc w h
   cases vs with
   | nil=>simp at h
   | cons v vs=>
     simp at h
     obtain ⟨rfl,QX⟩:=h
     simp only[List.forIn_cons,Sem.run_bind,Sem.run_pure,Result.andThen_ok]
     rw[ih vs _ w QX]
     simp [ByteArray.push]
theorem I4 {φ:Ph} {d:TypeDesc} {k j:AV} {r:Bool} (hk:jt (some d) k=true) (e:IS k j=some r) {k' j':Value} (h:VR φ k k') (h':VR φ j j'):Instr.sameNow d k' j'=some r:=by
 unfold IS at e
 split at e
 · generalize hs:AV.str _=s at h
   generalize zF:AV.str _=s' at h'
   cases h<;>cases hs
   cases h'<;>cases zF
   simp at e;subst e
   cases d<;>simp [jt] at hk
   rename_i s s'
   simp only[Instr.sameNow]
   congr 1
 · cases h;cases h'
   split at e
   · rename_i U5
     simp at e;subst e;subst U5
     cases d<;>simp [jt] at hk
     simp [Instr.sameNow]
   · simp at e
 · cases h;cases h'
   simp at e;subst e
   cases d<;>simp [jt] at hk
   simp [Instr.sameNow]
 · simp at e
theorem ta {φ:Ph} {d:TypeDesc} {k:AV} {k':Value} (hk:jt (some d) k=true) (h:VR φ k k'):∀{es:List lh} {km:List MapEntry} (_:ESR φ es km) {i:Nat} {r:Option (Nat×AV)} (_:IT k es i=some r),
 ∃r',Instr.findNow d k' km i=some r'∧(match r,r' with | none,none=>True | some (j,v),some (j',v')=>j=j'∧VR φ v v'∧i≤j∧∃e,es[j - i]? =some e∧IS k e.key=some true | _,_=>False)
 | [],km,he,i,r,e=>by
   cases km with
   | nil=>simp [IT] at e;subst e;exact ⟨none,rfl,trivial⟩
   | cons _ _=>simp [ESR] at he
 | x::es,km,he,i,r,e=>by
   obtain ⟨hl,hv⟩:=he
   cases km with
   | nil=>simp at hl
   | cons y ys=>
     have hx:=hv 0 x y (by simp) (by simp)
     simp only[IT] at e
     split at e
     · rename_i heq
       simp at e;subst e
       refine ⟨some (i,y.val),?_,rfl,hx.val,Nat.le_refl _,x,by simp,heq⟩
       simp [Instr.findNow,I4 hk heq h hx.key]
     · rename_i heq
       obtain ⟨r',h1,h2⟩:=ta hk h (es:=es) (km:=ys) ⟨by simpa using hl,fun i a b p q=>hv (i+1) a b (by simpa using p) (by simpa using q)⟩ e
       refine ⟨r',?_,?_⟩
       · simp [Instr.findNow,I4 hk heq h hx.key,h1]
       · cases r with
         | none=>cases r' with
           | none=>trivial
           | some _=>exact h2
         | some p=>
           obtain ⟨j,v⟩:=p
           cases r' with
           | none=>exact h2
           | some q=>
             obtain ⟨j',v'⟩:=q
             obtain ⟨h3,h4,h5,e',h6,h7⟩:=h2
             refine ⟨h3,h4,by omega,e',?_,h7⟩
             rw[show j - i=(j -(i+1))+1 by omega];simpa using h6
     · simp at e
theorem uz {P:Program} {t:TypeId} {d:TypeDesc} (hu:P.underlying t=some d) {k:AV} (hk:jt (some d) k=true) {φ:Ph} {k':Value} (h:VR φ k k') (b:Bool) (n:Nat) (w:World):
 (Instr.checkKey b (n+1) t k').run P w= .ok () w:=by
 unfold Instr.checkKey
 rw[Sem.run_bind,run_underlying hu]
 cases d<;>simp [jt] at hk<;>cases h<;>first | rfl | (simp [jt] at hk)
theorem Bb {P:Program} {w:World} {a:Addr} {n:Nat} (l:List Int) (hl:(loadCells a n).run P w= .ok ((l.map (fun n=>Value.int .u8 n)).toArray) w) (c:Nat):
 (Conv.bytesToString (.slice (some a) n c)).run P w= .ok (.string ⟨(l.map (fun n=>UInt8.ofNat n.toNat)).toArray⟩) w:=by
 unfold Conv.bytesToString
 simp only[Sem.run_bind,hl,Result.andThen_ok]
 have:=L9 (P:=P) l (l.map (fun n=>Value.int .u8 n)) ByteArray.empty w rfl
 have e:forIn (m:=Sem) (l.map (fun n=>Value.int .u8 n)).toArray ByteArray.empty (fun c s=>(match c with | .int .u8 n=>do pure (ForInStep.yield (s.push (UInt8.ofNat n.toNat))) | _=>do stuck "bytesToString: byte expected";pure (ForInStep.yield s):Sem (ForInStep ByteArray)))
  =forIn (m:=Sem) (l.map (fun n=>Value.int .u8 n)) ByteArray.empty (fun c s=>(match c with | .int .u8 n=>do pure (ForInStep.yield (s.push (UInt8.ofNat n.toNat))) | _=>do stuck "bytesToString: byte expected";pure (ForInStep.yield s):Sem (ForInStep ByteArray))):=by
  rw[←Array.forIn_toList]
 rw[←e] at this
 refine (congrArg (fun r=>Result.andThen r fun a w'=>Sem.run P (pure (Value.string a)) w') this).trans ?_
 simp
theorem DQ {φ:Ph}:∀{cs:List AV} {vs:List Value} (_:LR φ cs vs) {l:List UInt8} (_:fv (fun | .int .u8 b=>some (UInt8.ofNat b.toNat) | _=>none) cs=some l),
 ∃ns:List Int,vs=ns.map (fun n=>Value.int .u8 n)∧l=ns.map (fun n=>UInt8.ofNat n.toNat)
 | [],vs,hv,l,h=>by rw[hv.fR];simp [fv] at h;subst h;exact ⟨[],rfl,rfl⟩
 | c::cs,vs,hv,l,h=>by
   obtain ⟨y,ys,rfl,hy,A_⟩:=hv.eN
   simp only[fv] at h
   split at h
   · simp at h
   · rename_i b hb
     split at h
     · simp at h
     · rename_i bs hbs
       simp at h;subst h
       obtain ⟨ns,rfl,rfl⟩:=DQ A_ hbs
       split at hb
       · cases hy
         simp at hb;subst hb
         exact ⟨_::ns,rfl,rfl⟩
       · simp at hb
structure Entries (P:Program) (x:Value) (es:Array MapEntry) (w:World):Prop where
 is:(x= .map none∧es= #[])∨∃r clock,x= .map (some r)∧w.heap[r]? =some (.map es clock)
theorem FI {P:Program} {t key elem:TypeId} (hu:P.underlying t=some (.map key elem)) {x k:Value} {es:Array MapEntry} {w:World} (Qj:Entries P x es w)
 {d:TypeDesc} (hd:P.underlying key=some d) (hck:∀b n,(Instr.checkKey b (n+1) key k).run P w= .ok () w) {r:Option (Nat×Value)} (hf:Instr.findNow d k es.toList 0=some r) {z:Value} (hz:r=none→(zeroValue elem).run P w= .ok z w) (ok:Bool):
 (Instr.lookup t x k ok).run P w= .ok (match r with | some (_,v)=>if ok then .tuple #[v,.bool true] else v | none=>if ok then .tuple #[z,.bool false] else z) w:=by
 have ahk:=fun b=>hck b 9999
 rw[Instr.lookup]
 simp only[Sem.run_bind,run_underlying hu,Result.andThen_ok]
 rcases Qj.is with ⟨rfl,rfl⟩ | ⟨b,clock,rfl,hb⟩
 · simp only[Sem.run_bind,Sem.run_pure,Result.andThen_ok,ahk,Instr.findKey,run_underlying hd,hf]
   cases r with
   | none=>simp [hz rfl]
   | some q=>simp
 · have Qk:(getObj b).run P w= .ok (.map es clock) w:=by simp [getObj,Sem.run,hb]
   simp only[Sem.run_bind,Sem.run_pure,Result.andThen_ok,Qk,ahk,Instr.findKey,run_underlying hd,hf]
   cases r with
   | none=>simp [hz rfl]
   | some q=>simp
theorem DS {φ:Ph} (hg:GL E φ) {h:ah} {w:World} (ok:OK E φ h w) {ts:List AV} {a:Act} (ht:LR φ ts a.tmps.toList) {o:Oper} {v:AV} (e:ig E ts h o.op=some v):
 ∃v',VR φ v v'∧∀w',w'.heap=w.heap→(execOp a.eval o).run E.P w'= .ok (.value v') w':=by
 have ev:∀{x:Operand} {v:AV},eW E ts x=some v→VR φ v (a.eval x):=fun h=>oI hg ht h
 unfold execOp
 generalize o.op=op at e ⊢
 unfold ig at e
 split at e
 ·
  split at e
  · rename_i hx
    obtain ⟨x',hx',hr⟩:=I3 ok (ev hx) e
    exact ⟨x',hx',fun w' hw=>fJ (hr w' hw)⟩
  · simp at e
 ·
  split at e
  · rename_i el v0 hs hd hx
    split at e
    · rename_i he
      simp at e;subst e
      have h1:=ev hx
      generalize mo:a.eval _=cv at h1
      cases h1
      refine ⟨.string .empty,VR.str .empty,fun w' _=>fJ ?_⟩
      simp [mo,convert,run_underlying hs,run_underlying hd,run_underlying he,Conv.bytesToString]
    · rename_i i o len _ _ he
      split at e
      · rename_i l hb
        simp at e;subst e
        have h1:=ev hx
        generalize mo:a.eval _=cv at h1
        cases h1 with
        | @slice _ lc _ _ _ _ hφ=>
        unfold E6 at hb
        split at hb
        · rename_i cs el' ro hgc
          split at hb
          · rename_i hle
            obtain ⟨C,e',lo,hi,hbk,hc⟩:=ok.cells hgc hφ
            obtain ⟨vs,hvl,WS,Ip⟩:=hc.range o len hle
            obtain ⟨ns,rfl,rfl⟩:=DQ Ip hb
            refine ⟨.string ⟨(ns.map (fun n=>UInt8.ofNat n.toNat)).toArray⟩,?_,fun w' hw'=>fJ ?_⟩
            · have:=VR.str (φ:=φ) ⟨(ns.map (fun n=>UInt8.ofNat n.toNat)).toArray⟩
              simpa using this
            · rw[←hw'] at hbk
              have yU:=pn (P:=E.P) hbk (lc.off+o) _ WS
              rw[hvl] at yU
              have:=Bb ns yU (gC ‹_› ‹_› lc.iZ)
              rw[mo]
              simp only[convert,Sem.run_bind,run_underlying hs,run_underlying hd,Result.andThen_ok,run_underlying he]
              exact this
          · simp at hb
        · simp at hb
      · simp at e
    · simp at e
  · simp at e
 ·
  rename_i t x ix mw
  split at e
  · rename_i key elem m k hu hm hk
    split at e
    · rename_i U5
      have afr:∃d,E.P.underlying key=some d∧jt (some d) k=true:=by
       cases hd:E.P.underlying key with
       | none=>rw[hd] at U5;simp [jt] at U5
       | some d=>rw[hd] at U5;exact ⟨d,rfl,U5⟩
      obtain ⟨d,hd,Th⟩:=afr
      have hmv:=ev hm
      have hkv:=ev hk
      split at e
      · simp at e
      · rename_i es Qj
        have QY:∃km:Array MapEntry,ESR φ es km.toList∧∀w',w'.heap=w.heap→Entries E.P (a.eval x) km w':=by
         split at Qj
         · simp at Qj;subst Qj
           generalize mo:a.eval x=cv at hmv
           cases hmv
           exact ⟨#[],⟨rfl,fun i x y p _=>by simp at p⟩,fun w' _=>⟨.inl ⟨rfl,rfl⟩⟩⟩
         · rename_i i
           split at Qj
           · rename_i es0 clock hgm
             simp at Qj;subst Qj
             generalize mo:a.eval x=cv at hmv
             cases hmv with
             | @map _ l hφ=>
             have LY:=ok.live i _ l hgm hφ
             obtain ⟨h00,km,hb,Ai⟩:=LY
             exact ⟨km,Ai,fun w' hw=>⟨.inr ⟨l.fO,clock,rfl,by rw[hw];exact hb⟩⟩⟩
           · simp at Qj
         · simp at Qj
        obtain ⟨km,Ai,iH⟩:=QY
        split at e
        · simp at e
        · rename_i j v0 hf
          obtain ⟨r',h1,h2⟩:=ta Th hkv Ai hf
          cases r' with
          | none=>exact h2.elim
          | some q=>
          obtain ⟨j',v'⟩:=q
          obtain ⟨_,WS,_⟩:=h2
          simp at e;subst e
          refine ⟨if mw then .tuple #[v',.bool true] else v',?_,fun w' hw=>fJ ?_⟩
          · split
            · exact VR.tuple' (i_:=[v',.bool true]) (.cons WS (.cons (.bool true) (.nil φ)))
            · exact WS
          · exact FI hu (iH w' hw) hd (fun b n=>uz hd Th hkv b n w') h1 (z:=undef) (fun e=>by simp at e) mw
        · rename_i hf
          obtain ⟨r',h1,h2⟩:=ta Th hkv Ai hf
          cases r' with
          | some q=>exact h2.elim
          | none=>
          split at e
          · rename_i z hz
            simp at e;subst e
            obtain ⟨z',Ig,my⟩:=jN hz
            refine ⟨if mw then .tuple #[z',.bool false] else z',?_,fun w' hw=>fJ ?_⟩
            · split
              · exact VR.tuple' (i_:=[z',.bool false]) (.cons (Ig φ) (.cons (.bool false) (.nil φ)))
              · exact Ig φ
            · exact FI hu (iH w' hw) hd (fun b n=>uz hd Th hkv b n w') h1 (fun _=>my w') mw
          · simp at e
    · simp at e
  · simp at e
 ·
  split at e
  · rename_i t i WR QX
    have hl:=ir hg ht QX
    obtain ⟨y,ys,A_,hy,FH⟩:=hl.eN
    rw[FH.fR] at A_
    have h0:∀(args:Array Operand),args.toList.map a.eval=[y]→args.map a.eval= #[y]:=fun args e=>by rw[map_toArray,e]
    have h0:=h0 _ A_
    cases hy with
    | @map _ l hφ=>
    split at e
    · rename_i es clock hu hgm
      simp at e;subst e
      have LY:=ok.live i _ l hgm hφ
      obtain ⟨h00,km,hb,hlen,_⟩:=LY
      refine ⟨_,.int _ _,fun w' hw=>?_⟩
      rw[←hw] at hb
      have Qk:(getObj l.fO).run E.P w'= .ok (.map km clock) w':=by simp [getObj,Sem.run,hb]
      simp [resolve,invoke,builtin,h0,Builtin.len_,WR,run_underlying hu,goInt,Qk,hlen]
    · simp at e
  · simp at e
 · simp at e
end Go.Ab
end
section
namespace Go.Ab
variable {E:Env}
theorem Bc (z:List AV):∀(n i:Nat),i<n*z.length→(aS z n)[i]? =z[i%z.length]?
 | 0,i,h=>by omega
 | n+1,i,h=>by
   rw[aS]
   by_cases hi:i<z.length
   · rw[List.getElem?_append_left hi,Nat.mod_eq_of_lt hi]
   · rw[List.getElem?_append_right (by omega),Bc z n (i - z.length) (by rw[Nat.add_mul] at h;omega)]
     rw[Nat.mod_eq_sub_mod (a:=i) (by omega)]
theorem oJ (z:List AV):∀n,(aS z n).length=n*z.length
 | 0=>by simp [aS]
 | n+1=>by rw[aS,List.length_append,oJ z n,Nat.add_mul];omega
theorem QZ {φ:Ph} {z:List AV} {z':Array Value} (h:LR φ z z'.toList) (n:Nat):LR φ (aS z n) ((Array.range (n*z'.size)).map (fun i=>z'[i%z'.size]!)).toList:=by
 have hl:z.length=z'.size:=by simpa using h.1
 refine ⟨by rw[oJ];simp [hl],fun i x y hx hy=>?_⟩
 have hi:i<n*z.length:=by
  have:=(List.getElem?_eq_some_iff.1 hx).1
  rwa [oJ] at this
 rw[Bc z n i hi] at hx
 obtain ⟨v,hv,hr⟩:=h.get hx
 have Kb:0<z'.size:=by
  rcases Nat.eq_zero_or_pos z'.size with h0 | h0
  · rw[hl,h0] at hi;omega
  · exact h0
 have:i%z'.size<z'.size:=Nat.mod_lt _ Kb
 rw[hl] at hi
 simp [hi] at hy
 rw[hl] at hv
 simp [this] at hv
 simp [this] at hy
 rw[←hy,hv];exact hr
structure Made (E:Env) (φ:Ph) (obj:ar) (mk:Nat→AV) (O:Obj) (mk':Nat→Value):Prop where
 val:∀(φ':Ph) (i b:Nat),φ.le φ'→φ' i=some ⟨b,0,0⟩→VR φ' (mk i) (mk' b)
 obj:∀(φ':Ph) (b:Nat),φ.le φ'→OR E φ' obj ⟨b,0,0⟩ (some O)
theorem Bd {φ φ':Ph} (hle:φ.le φ') {cs:List AV} {C:Array Value} (h:LR φ cs C.toList) (t e:TypeId) (b:Nat):OR E φ' (.cells cs t false) ⟨b,0,0⟩ (some (.cells C e)):=by
 refine ⟨C,e,0,0,rfl,?_,fun k x hk=>?_,fun _ k _ _=>by omega,fun _ _ _=>rfl⟩
 · have:=h.1;simp at this;simp [e_,this]
 · obtain ⟨y,hy,hr⟩:=h.get hk
   exact ⟨y,by simpa using hy,hr.mono hle⟩
set_option linter.unusedSimpArgs false in
set_option maxHeartbeats 1000000 in
theorem Be {φ:Ph} (hg:GL E φ) {ts:List AV} {a:Act} (ht:LR φ ts a.tmps.toList) {o:Oper} {obj:ar} {mk:Nat→AV} (e:gh E ts o.op=some (obj,mk)):
 ∃O mk',Made E φ obj mk O mk'∧∀w,(execOp a.eval o).run E.P w= .ok (.value (mk' w.heap.size)) (w.alloc O):=by
 have ev:∀{x:Operand} {v:AV},eW E ts x=some v→VR φ v (a.eval x):=fun h=>oI hg ht h
 unfold execOp
 generalize o.op=op at e ⊢
 unfold gh at e
 split at e
 ·
  rename_i t
  split at e
  · rename_i z hz
    simp at e;obtain ⟨rfl,rfl⟩:=e
    obtain ⟨z',Ig,my⟩:=jN hz
    refine ⟨.cells z'.cells t,fun b=> .pointer (some ⟨b,0,none⟩),⟨fun φ' i b _ hi=>by have:=VR.ptr (φ:=φ') 0 hi;simpa using this,fun φ' b hle=>Bd hle (Ig φ).cells _ _ b⟩,fun w=>fJ ?_⟩
    simp [Instr.alloc,my,newVar,newRow]
  · simp at e
 ·
  rename_i t x
  split at e
  · rename_i v hv
    simp at e;obtain ⟨rfl,rfl⟩:=e
    refine ⟨.cells (a.eval x).cells t,fun b=> .pointer (some ⟨b,0,none⟩),⟨fun φ' i b _ hi=>by have:=VR.ptr (φ:=φ') 0 hi;simpa using this,fun φ' b hle=>Bd hle (ev hv).cells _ _ b⟩,fun w=>fJ ?_⟩
    simp [Instr.box,newVar,newRow]
  · simp at e
 ·
  rename_i t len parts
  split at e
  · rename_i elem hu
    split at e
    · rename_i n z ps hn hz hps
      split at e
      · rename_i hc
        split at e
        · rename_i cs hf
          simp at e;obtain ⟨rfl,rfl⟩:=e
          obtain ⟨z',Ig,my⟩:=jN hz
          have hp:=CW hg ht hps
          have hzl:z'.cells.size=n:=by have:=(Ig φ).cells.1;simp at this;omega
          have Xr:=QZ (Ig φ).cells len
          rw[hzl] at Xr
          obtain ⟨C',DN,Ip⟩:=xX (place:=fun i=>some (i*n,n)) (qs:=(parts.map fun (i,x)=>(i,a.eval x)).toList) (by simpa using hp) Xr hf
          refine ⟨.cells C' elem,fun b=> .slice (some ⟨b,0,none⟩) len len,⟨fun φ' i b _ hi=>by have:=VR.slice (φ:=φ') 0 len len false hi;simpa [gC] using this,fun φ' b hle=>Bd hle Ip _ _ b⟩,fun w=>fJ ?_⟩
          have h24:¬len*n>2^24:=by omega
          simp only[Instr.buildSlice,Sem.run_bind,run_underlying hu,Result.andThen_ok,dN hn,h24,if_false,Sem.run_pure]
          by_cases h0:len*n=0
          · simp only[h0,if_true,Sem.run_pure,Result.andThen_ok]
            rw[h0] at DN
            have r0:Array.range 0= #[]:=rfl
            simp [r0] at DN
            simp [DN,newRow,r0]
          · simp only[h0,if_false,Sem.run_bind,my,Result.andThen_ok,Sem.run_pure]
            rw[hzl]
            simp only[DN]
            simp [newRow]
        · simp at e
      · simp at e
    · simp at e
  · simp at e
 ·
  rename_i t lo co
  split at e
  · rename_i elem k len k' cap hu hl hc
    split at e
    · rename_i n bytes z hn hb hz
      split at e
      · rename_i ab6
        obtain ⟨c1,c2,c3,c4,c5⟩:=ab6
        simp at e;obtain ⟨rfl,rfl⟩:=e
        obtain ⟨z',Ig,my⟩:=jN hz
        have hzl:z'.cells.size=n:=by have:=(Ig φ).cells.1;simp at this;omega
        have Xr:=QZ (Ig φ).cells cap.toNat
        rw[hzl] at Xr
        have h1:=ev hl
        have h2:=ev hc
        generalize WT:a.eval lo=lv at h1
        generalize mo:a.eval co=cv at h2
        cases h1;cases h2
        refine ⟨.cells ((Array.range (cap.toNat*n)).map (fun i=>z'.cells[i%n]!)) elem,fun b=> .slice (some ⟨b,0,none⟩) len.toNat cap.toNat,
         ⟨fun φ' i b _ hi=>by have:=VR.slice (φ:=φ') 0 len.toNat cap.toNat false hi;simpa [gC] using this,fun φ' b hle=>Bd hle Xr _ _ b⟩,fun w=>fJ ?_⟩
        have w1:IntKind.i64.wrap len=len:=IntWalk.i64_in _ (by omega)
        have w2:IntKind.i64.wrap cap=cap:=IntWalk.i64_in _ (by omega)
        obtain ⟨inf,L_,j6⟩:=s9 hb w
        have t1:¬(cap<0∨(2^48:Int)<bytes*cap):=by omega
        simp only[Instr.makeSlice,Sem.run_bind,run_underlying hu,Result.andThen_ok,WT,mo,asInt,asIntOf,Sem.run_pure,L_,j6,w1,w2]
        have hb0:(0:Int)≤inf.bytes*cap:=Int.mul_nonneg (by omega) (by omega)
        have tl:(decide (cap<0)||decide ((inf.bytes:Int)*cap>2^48))=false:=by
         rw[j6];simp only[Bool.or_eq_false_iff,decide_eq_false_iff_not];omega
        have tl2:decide (len<0)=false:=by simp only[decide_eq_false_iff_not];omega
        have tl3:decide (len>cap)=false:=by simp only[decide_eq_false_iff_not];omega
        rw[←j6]
        simp only[tl,tl2,tl3,Bool.or_self,Bool.false_eq_true,if_false,run_askRoom,dN hn,Sem.run_bind,Result.andThen_ok]
        by_cases h0:cap.toNat*n=0
        · have r0:Array.range 0= #[]:=rfl
          simp [h0,newRow,r0]
        · simp only[h0,if_false,Sem.run_bind,my,Result.andThen_ok,Sem.run_pure]
          simp [newRow,hzl]
      · simp at e
    · simp at e
  · simp at e
 ·
  rename_i t r
  split at e
  · simp at e;obtain ⟨rfl,rfl⟩:=e
    exact ⟨.map #[] 0,fun b=> .map (some b),⟨fun φ' i b _ hi=>by have:=VR.map (φ:=φ') hi;simpa using this,fun φ' b hle=>⟨rfl, #[],rfl,rfl,fun i x y p _=>by simp at p⟩⟩,fun w=>fJ (by simp [Instr.makeMap])⟩
  · rename_i o
    split at e
    · rename_i hu hv
      simp at e;obtain ⟨rfl,rfl⟩:=e
      have h1:=ev hv
      generalize WT:a.eval o=lv at h1
      cases h1
      exact ⟨.map #[] 0,fun b=> .map (some b),⟨fun φ' i b _ hi=>by have:=VR.map (φ:=φ') hi;simpa using this,fun φ' b hle=>⟨rfl, #[],rfl,rfl,fun i x y p _=>by simp at p⟩⟩,fun w=>fJ (by simp [Instr.makeMap,run_underlying hu,WT,asInt,asIntOf])⟩
    · simp at e
 ·
  rename_i t x
  split at e
  · rename_i s hu hx
    simp at e;obtain ⟨rfl,rfl⟩:=e
    have h1:=ev hx
    generalize WT:a.eval x=lv at h1
    generalize QW:AV.str s=s0 at h1
    cases h1<;>cases QW
    rename_i s'
    exact ⟨.stringIter s' 0,fun b=> .pointer (some ⟨b,0,none⟩),⟨fun φ' i b _ hi=>by have:=VR.ptr (φ:=φ') 0 hi;simpa using this,fun φ' b hle=>⟨rfl,s',rfl,rfl⟩⟩,fun w=>fJ (by simp [Instr.range,run_underlying hu,WT])⟩
  · rename_i hu hx
    simp at e;obtain ⟨rfl,rfl⟩:=e
    have h1:=ev hx
    generalize WT:a.eval x=lv at h1
    cases h1
    exact ⟨.mapIter none 0 #[] 0,fun b=> .pointer (some ⟨b,0,none⟩),⟨fun φ' i b _ hi=>by have:=VR.ptr (φ:=φ') 0 hi;simpa using this,fun φ' b hle=>⟨rfl,rfl⟩⟩,fun w=>fJ (by simp [Instr.range,run_underlying hu,WT])⟩
  · simp at e
 · simp at e
end Go.Ab
end
