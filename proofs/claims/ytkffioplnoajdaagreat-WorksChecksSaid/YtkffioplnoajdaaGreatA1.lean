import Derived.Laws.StructEq
import Derived.Laws.Slices
import Derived.Laws.Strings
import Derived.ChangeKeysEq
import Derived.Deep.MidRow
import Derived.Lib.Strings
import Derived.IntWalk
import Derived.Test.YtkffioplnoajdaaGreatA0
set_option linter.unusedVariables false
set_option linter.unusedSimpArgs false
section
namespace Go.Ab
variable {E:Env}
def GL (E:Env) (φ:Ph):Prop:=∀g,g<E.G→φ g=some ⟨g,0,0⟩
theorem oG {φ:Ph} (hg:GL E φ) {ts:List AV} {a:Act} (ht:LR φ ts a.tmps.toList) {x:Operand} {v:AV} (h:fb E ts x=some v):VR φ v (a.eval x):=by
 cases x with
 | tmp t=>
   simp only[fb,Option.some.injEq] at h;subst h
   have:=ht.getD (VR.undef φ) t
   rw[show a.eval (.tmp t)=a.tmps.toList.getD t undef by simp [Act.eval,Array.getD_eq_getD_getElem?,List.getD]]
   exact this
 | const c=>exact C4 φ h
 | global g=>
   simp only[fb] at h
   split at h
   · rename_i np;simp at h;subst h;have:=VR.ptr 0 (hg g np);simpa [Act.eval] using this
   · simp at h
 | func f=>simp [fb] at h;subst h;exact VR.Sz (a':=[]) (b':=[]) f (LR.nil φ) (LR.nil φ)
theorem iM {φ:Ph} (hg:GL E φ) {ts:List AV} {a:Act} (ht:LR φ ts a.tmps.toList) {l:List Operand} {r:List AV} (h:gI E ts l=some r):LR φ r (l.map a.eval):=by
 obtain ⟨hl,hv⟩:=tZ h
 refine ⟨by simp [hl],fun i x y hx hy=>?_⟩
 simp at hy
 obtain ⟨o,ho,rfl⟩:=hy
 obtain ⟨z,hz,he⟩:=hv i o ho
 rw[hx] at hz;simp at hz;subst hz
 exact oG hg ht he
theorem eR {P:Program} {t:TypeId} {n:Nat} (h:(P.info? t).map (·.size)=some n) (w:World):(sizeOf t).run P w= .ok n w:=by
 cases hq:P.info? t with
 | none=>simp [hq] at h
 | some i=>simp [hq] at h;simp [sizeOf,typeInfo,hq,h]
theorem rk {P:Program} {t:TypeId} {n:Nat} (h:(P.info? t).map (·.bytes)=some n) (w:World):∃i,(typeInfo t).run P w= .ok i w∧i.bytes=n:=by
 cases hq:P.info? t with
 | none=>simp [hq] at h
 | some i=>simp [hq] at h;exact ⟨i,by simp [typeInfo,hq],h⟩
theorem jZ {t:TypeId} {z:AV} (h:gR E t=some z):∃z',(∀φ,VR φ z z')∧∀w,(zeroValue t).run E.P w= .ok z' w:=by
 unfold gR at h
 split at h
 · rename_i i hi
   split at h
   · rename_i z' hz
     exact ⟨z',fun φ=>C4 φ h,fun w=>by simp [zeroValue,typeInfo,hi,hz]⟩
   · simp at h
 · simp at h
theorem rW {t:TypeId} {b:Bool} (h:fw E t=some b) (w:World):(isAgg t).run E.P w= .ok b w:=by
 unfold fw at h
 unfold isAgg
 rw[Sem.run_bind]
 split at h<;>rename_i hu<;>simp at h
 · subst h;rw[run_underlying hu];rfl
 · subst h;rw[run_underlying hu];rfl
 · rename_i d h1 h2
   subst h;rw[run_underlying hu]
   cases d<;>first | rfl | (exact absurd rfl (h1 _)) | (exact absurd rfl (h2 _ _))
theorem toArray_extract (l:List Value) (a b:Nat):l.toArray.extract a b=((l.drop a).take (b - a)).toArray:=by simp
theorem rl {φ:Ph} {t:TypeId} {cs:List AV} {jL:List Value} (hc:LR φ cs jL) {off:Nat} {v:AV} (h:iK E t cs off=some v):
 ∃v',VR φ v v'∧∀w,(part t jL.toArray off).run E.P w= .ok v' w:=by
 unfold iK at h
 split at h
 · rename_i ha
   split at h
   · rename_i n hn
     split at h
     · simp at h;subst h
       refine ⟨.agg ((jL.drop off).take n).toArray,VR.Qo ((hc.drop off).take n),fun w=>?_⟩
       simp only[part,Sem.run_bind,rW ha,Result.andThen_ok,if_true,eR hn,Sem.run_pure,toArray_extract,Nat.add_sub_cancel_left]
     · simp at h
   · simp at h
 · rename_i ha
   obtain ⟨y,hy,hv⟩:=hc.get h
   refine ⟨y,hv,fun w=>?_⟩
   simp only[part,Sem.run_bind,rW ha,Result.andThen_ok,Bool.false_eq_true,if_false]
   have:jL.toArray[off]? =some y:=by simpa using hy
   simp [this]
 · simp at h
theorem bytes_beq (a b:ByteArray):(a.toList==b.toList)=(a.data.toList==b.data.toList):=by rw[ByteArray.toList_eq,ByteArray.toList_eq]
set_option linter.unusedSimpArgs false in
theorem Mv {φ:Ph} {op:BinOp} {k:IntKind} {x y:Int} {v:AV} (h:dK op k x y=some v) (hs:op≠ .shl) (rX:op≠ .shr) (t:TypeId):
 ∃v',VR φ v v'∧∀w,(binOp op t (.int k x) (.int k y)).run E.P w= .ok v' w:=by
 unfold dK at h
 split at h
 all_goals first
  | (simp at h;subst h;exact ⟨_,.int _ _,fun w=>by simp [binOp,Op.intArith,Op.intBits,Op.intCmp]⟩)
  | (simp at h;subst h;exact ⟨_,.bool _,fun w=>by simp [binOp,Op.intArith,Op.intBits,Op.intCmp]⟩)
  | (split at h
     · simp at h
     · rename_i hy
       simp at h;subst h;exact ⟨_,.int _ _,fun w=>by simp [binOp,Op.intDiv,hy]⟩)
  | simp at h
set_option linter.unusedSimpArgs false in
theorem Mw {φ:Ph} {op:BinOp} {x y:ByteArray} {v:AV} (h:wK op x.data.toList y.data.toList=some v) (t:TypeId):
 ∃v',VR φ v v'∧∀w,(binOp op t (.string x) (.string y)).run E.P w= .ok v' w:=by
 unfold wK at h
 split at h
 · split at h
   · rename_i np
     simp at h;subst h
     refine ⟨.string (x++y),?_,fun w=>?_⟩
     · have:=VR.str (φ:=φ) (x++y);simpa using this
     · have aiS:x.size+y.size<1099511627776:=by
        have e:∀b:ByteArray,b.size=b.data.toList.length:=fun b=>by cases b;rfl
        rw[e,e];exact np
       have hm:IntKind.i64.max=9223372036854775807:=by decide
       have:¬((x.size+y.size:Nat):Int) >IntKind.i64.max:=by rw[hm];omega
       simp only[binOp,Op.stringOp,this,if_false,Sem.run_pure]
   · simp at h
 all_goals first
  | (simp only[Option.some.injEq] at h;subst h;exact ⟨_,.bool _,fun w=>by simp only[binOp,Op.stringOp,bytes_beq,ByteArray.toList_eq,Sem.run_pure]⟩)
  | simp at h
theorem Gq {φ:Ph} {t:TypeId} {x y:AV} {r:Bool} (h:Qm E t x y=some r) {x' y':Value} (hx:VR φ x x') (hy:VR φ y y') (dd:Nat):
 ∀w,(Op.equalIn (dd+1) t x' y').run E.P w= .ok r w:=by
 intro w
 unfold Qm at h
 split at h<;>(try (simp at h;done))
 all_goals
  rename_i hd
  split at h<;>(try (simp at h;done))
  all_goals
   simp only[Option.some.injEq] at h
   subst h
   unfold Op.equalIn
   rw[Sem.run_bind,run_underlying hd]
   cases hx<;>cases hy<;>rfl
theorem JP {φ:Ph} {t:TypeId} {x y:AV} {r:Bool} (h:Qm E t x y=some r) {x' y':Value} (hx:VR φ x x') (hy:VR φ y y'):
 ∀w,(Op.equal t x' y').run E.P w= .ok r w:=Gq h hx hy 9999
theorem qH {φ:Ph} {eq:TypeId→AV→AV→Option Bool} {d:Nat} (heq:∀t a b r a' b',eq t a b=some r→VR φ a a'→VR φ b b'→∀w,(Op.equalIn d t a' b').run E.P w= .ok r w)
 {xs ys:List AV} {C2 Aj:Array Value} (hx:LR φ xs C2.toList) (hy:LR φ ys Aj.toList):∀{fs:List Field} {r:Bool} (_:pq E eq xs ys fs=some r) (w:World),(Op.eqFields d C2 Aj fs).run E.P w= .ok r w
 | [],r,h,w=>by simp [pq] at h;subst h;rfl
 | f::fs,r,h,w=>by
   simp only[pq] at h
   unfold Op.eqFields
   split at h
   · rename_i hn
     rw[if_neg (by simp [hn])]
     exact qH heq hx hy h w
   · rename_i hn
     rw[if_pos hn]
     split at h
     · rename_i a b ha hb
       obtain ⟨a',hva,hra⟩:=rl hx ha
       obtain ⟨b',hvb,hrb⟩:=rl hy hb
       rw[Array.toArray_toList] at hra hrb
       split at h
       · rename_i he
         have:=qH heq hx hy h w
         simp [Sem.run_bind,hra,hrb,heq _ _ _ _ _ _ he hva hvb,this]
       · rename_i he
         simp at h;subst h
         simp [Sem.run_bind,hra,hrb,heq _ _ _ _ _ _ he hva hvb]
       · simp at h
     · simp at h
theorem pB {φ:Ph}:∀(n d:Nat) (t:TypeId) (a b:AV) (r:Bool) (a' b':Value) (_:lX E n t a b=some r) (_:VR φ a a') (_:VR φ b b') (w:World),(Op.equalIn (d+n) t a' b').run E.P w= .ok r w
 | 0,_,_,_,_,_,_,_,h,_,_,_=>by simp [lX] at h
 | n+1,d,t,a,b,r,a',b',h,ha,hb,w=>by
   rw[←Nat.add_assoc]
   unfold lX at h
   split at h
   · cases ha;cases hb
     split at h
     · rename_i hu
       split at h
       · rename_i hk;subst hk
         simp at h;subst h
         exact run_equalIn_int w (d+n) t _ _ _ _ hu
       · simp at h
     · simp at h
   · cases ha;cases hb
     split at h
     · rename_i hu
       simp only[Option.some.injEq] at h;subst h
       rw[run_equalIn_string w (d+n) t _ _ hu,ByteArray.toList_eq,ByteArray.toList_eq]
     · simp at h
   · obtain ⟨C2,rfl,Fv⟩:=ha.kL
     obtain ⟨Aj,rfl,wV⟩:=hb.kL
     split at h
     · rename_i fs hu
       split at h
       · rename_i kb
         have hfs:E.P.fieldsOf t=fs:=by simp [Program.fieldsOf,hu]
         rw[run_equalIn_struct w (d+n) t C2 Aj (by rw[hfs];exact hu) kb,hfs]
         exact qH (fun t a b r a' b' h1 h2 h3 w=>pB n d t a b r a' b' h1 h2 h3 w) Fv wV h w
       · simp at h
     · simp at h
   · exact Gq h ha hb (d+n) w
theorem Bi {op:BinOp} {t:TypeId} (x y:Operand) (xs ys:Array Value) (h:E.P.eqGuardType E.P.depth t=false) (w:World):(eqGuard op t x y (.agg xs) (.agg ys)).run E.P w= .ok () w:=by
 unfold eqGuard
 cases op<;>(try rfl)
 all_goals simp [Sem.run_bind,run_program,h]
theorem wb {op:BinOp} (h1:op≠ .eql) (h2:op≠ .neq) (t:TypeId) (x y:Operand) (a b:Value) (w:World):(eqGuard op t x y a b).run E.P w= .ok () w:=by
 unfold eqGuard;cases op<;>first | rfl | (exact absurd rfl h1) | (exact absurd rfl h2)
def HD (xc yc:Bool):Value→Value→Bool
 | .nilIface,.nilIface=>xc||yc
 | .agg _,.agg _=>false
 | _,_=>true
theorem nP {op:BinOp} (t:TypeId) (x y:Operand) (a b:Value) (h:HD (isConst x) (isConst y) a b=true) (w:World):
 (eqGuard op t x y a b).run E.P w= .ok () w:=by
 unfold eqGuard
 cases op<;>(try rfl)
 all_goals
  cases a<;>cases b<;>first
   | rfl
   | (simp [HD] at h;done)
   | (cases x<;>cases y<;>first | rfl | (simp [HD,isConst] at h;done))
theorem Gr {k k':IntKind} {x y:Int} (hy:¬y<0) (t:TypeId):
 (∀w,(binOp .shl t (.int k x) (.int k' y)).run E.P w= .ok (.int k (k.wrap (x*2^(min y.toNat k.bits)))) w)∧
 (∀w,(binOp .shr t (.int k x) (.int k' y)).run E.P w= .ok (.int k (x.fdiv (2^(min y.toNat k.bits)))) w):=by
 constructor<;>intro w<;>simp [binOp,Op.shift,hy]
theorem C9 {φ:Ph} {a b:AV} {a' b':Value} (hx:VR φ a a') (hy:VR φ b b') {xo yo:Operand} (h:qj (isConst xo) (isConst yo) a b=true):
 HD (isConst xo) (isConst yo) a' b'=true:=by
 cases hx<;>cases hy<;>first | rfl | exact h | (simp [qj] at h;done)
def lE:Value→Prop
 | .float _ _ | .complex _ _ _=>False
 | _=>True
theorem VR.lE {φ:Ph} {a:AV} {a':Value} (h:VR φ a a'):Ab.lE a':=by
 cases h with
 | any _ h=>cases a'<;>first | exact trivial | cases h
 | _=>exact trivial
theorem binOp_eql (t:TypeId) {a b:Value} (h1:∀k m k' m',a= .int k m→b= .int k' m'→False) (h2:∀k m,a= .string k→b= .string m→False) (h3:lE a) (h4:lE b):
 binOp .eql t a b=(do pure (.bool (←Op.equal t a b)):Sem Value):=by
 unfold binOp
 split<;>first
  | rfl
  | contradiction
  | (exact (h1 _ _ _ _ rfl rfl).elim)
  | (exact (h2 _ _ rfl rfl).elim)
  | (exact h3.elim)
  | (exact h4.elim)
  | (exfalso;simp_all;done)
theorem binOp_neq (t:TypeId) {a b:Value} (h1:∀k m k' m',a= .int k m→b= .int k' m'→False) (h2:∀k m,a= .string k→b= .string m→False) (h3:lE a) (h4:lE b):
 binOp .neq t a b=(do pure (.bool (!(←Op.equal t a b))):Sem Value):=by
 unfold binOp
 split<;>first
  | rfl
  | contradiction
  | (exact (h1 _ _ _ _ rfl rfl).elim)
  | (exact (h2 _ _ rfl rfl).elim)
  | (exact h3.elim)
  | (exact h4.elim)
  | (exfalso;simp_all;done)
set_option linter.unusedSimpArgs false in
theorem SI {φ:Ph} {op:BinOp} {t:TypeId} {xo yo:Operand} {a b v:AV} (h:nf E op t (isConst xo) (isConst yo) a b=some v) {a' b':Value} (hx:VR φ a a') (hy:VR φ b b'):
 ∃v',VR φ v v'∧∀w,(do eqGuard op t xo yo a' b';binOp op t a' b':Sem Value).run E.P w= .ok v' w:=by
 unfold nf at h
 split at h
 ·
  cases hx;cases hy
  split at h
  · simp at h
  · rename_i hn
    simp at h;subst h
    refine ⟨_,.int _ _,fun w=>?_⟩
    rw[Sem.run_bind,wb (by decide) (by decide)]
    exact (Gr (E:=E) hn t).1 w
 · cases hx;cases hy
   split at h
   · simp at h
   · rename_i hn
     simp at h;subst h
     refine ⟨_,.int _ _,fun w=>?_⟩
     rw[Sem.run_bind,wb (by decide) (by decide)]
     exact (Gr (E:=E) hn t).2 w
 · rename_i k x k' y h1 h2
   cases hx;cases hy
   split at h
   · rename_i hk;subst hk
     obtain ⟨v',hv,hr⟩:=Mv (φ:=φ) (E:=E) h h1 h2 t
     refine ⟨v',hv,fun w=>?_⟩
     rw[Sem.run_bind,nP _ _ _ _ _ rfl]
     exact hr w
   · simp at h
 · cases hx;cases hy
   obtain ⟨v',hv,hr⟩:=Mw (φ:=φ) (E:=E) h t
   refine ⟨v',hv,fun w=>?_⟩
   rw[Sem.run_bind,nP _ _ _ _ _ rfl]
   exact hr w
 ·
  split at h
  · simp at h
  · rename_i hg
    split at h
    · rename_i r hr
      simp at h;subst h
      refine ⟨_,.bool r,fun w=>?_⟩
      obtain ⟨C2,rfl,Fv⟩:=hx.kL
      obtain ⟨Aj,rfl,wV⟩:=hy.kL
      rw[Sem.run_bind,Bi _ _ _ _ (by simpa using hg)]
      have:=pB 16 9984 t _ _ r _ _ hr hx hy w
      simp only[Result.andThen_ok]
      rw[binOp_eql (a:= .agg C2) (b:= .agg Aj) t (fun _ _ _ _ e=>by simp at e) (fun _ _ e=>by simp at e) trivial trivial,Sem.run_bind]
      rw[show (Op.equal t (.agg C2) (.agg Aj)).run E.P w= .ok r w from this];rfl
    · simp at h
 · split at h
   · simp at h
   · rename_i hg
     split at h
     · rename_i r hr
       simp at h;subst h
       refine ⟨_,.bool (!r),fun w=>?_⟩
       obtain ⟨C2,rfl,Fv⟩:=hx.kL
       obtain ⟨Aj,rfl,wV⟩:=hy.kL
       rw[Sem.run_bind,Bi _ _ _ _ (by simpa using hg)]
       have:=pB 16 9984 t _ _ r _ _ hr hx hy w
       simp only[Result.andThen_ok]
       rw[binOp_neq (a:= .agg C2) (b:= .agg Aj) t (fun _ _ _ _ e=>by simp at e) (fun _ _ e=>by simp at e) trivial trivial,Sem.run_bind]
       rw[show (Op.equal t (.agg C2) (.agg Aj)).run E.P w= .ok r w from this];rfl
     · simp at h
 · rename_i h1 h2 _
   split at h
   · rename_i hg
     split at h
     · rename_i r hr
       simp at h;subst h
       refine ⟨_,.bool r,fun w=>?_⟩
       rw[Sem.run_bind,nP _ _ _ _ _ (C9 hx hy hg)]
       have:=JP hr hx hy w
       simp only[Result.andThen_ok]
       rw[binOp_eql t (fun k m k' m' e e'=>by subst e;subst e';cases hx<;>cases hy<;>first | exact h1 _ _ _ _ rfl rfl | (simp [qj] at hg;done)) (fun k m e e'=>by subst e;subst e';cases hx<;>cases hy<;>first | exact h2 _ _ rfl rfl | (simp [qj] at hg;done)) (VR.lE hx) (VR.lE hy)]
       rw[Sem.run_bind,this];rfl
     · simp at h
   · simp at h
 · rename_i h1 h2 _
   split at h
   · rename_i hg
     split at h
     · rename_i r hr
       simp at h;subst h
       refine ⟨_,.bool (!r),fun w=>?_⟩
       rw[Sem.run_bind,nP _ _ _ _ _ (C9 hx hy hg)]
       have:=JP hr hx hy w
       simp only[Result.andThen_ok]
       rw[binOp_neq t (fun k m k' m' e e'=>by subst e;subst e';cases hx<;>cases hy<;>first | exact h1 _ _ _ _ rfl rfl | (simp [qj] at hg;done)) (fun k m e e'=>by subst e;subst e';cases hx<;>cases hy<;>first | exact h2 _ _ rfl rfl | (simp [qj] at hg;done)) (VR.lE hx) (VR.lE hy)]
       rw[Sem.run_bind,this];rfl
     · simp at h
   · simp at h
 · simp at h
end Go.Ab
end
section
namespace Go.Ab
variable {E:Env}
theorem W9 {φ:Ph} {op:UnOp} {x v:AV} (h:unA op x=some v) {x':Value} (hx:VR φ x x'):∃v',VR φ v v'∧∀w,(Op.unary op x').run E.P w= .ok v' w:=by
 unfold unA at h
 split at h
 · cases hx;simp at h;subst h;exact ⟨_,.int _ _,fun w=>by simp [Op.unary,Op.intArith]⟩
 · cases hx;simp at h;subst h;exact ⟨_,.int _ _,fun w=>by simp [Op.unary,Op.intBits]⟩
 · cases hx;simp at h;subst h;exact ⟨_,.bool _,fun w=>by simp [Op.unary]⟩
 · simp at h
theorem wX {φ:Ph} {x:AV} {y n:Nat} (h:pv x y=some n) {x':Value} (hx:VR φ x x') {y':Nat} (hy:y≤y') (code:BoundsCode):
 (∀w,(Instr.sliceBound x' y' code).run E.P w= .ok n w)∧n≤y:=by
 unfold pv at h
 split at h
 · split at h
   · rename_i hc
     cases hx
     simp at h;subst h
     refine ⟨fun w=>?_,by omega⟩
     simp only[Instr.sliceBound,asIntOf,Sem.run_bind,Sem.run_pure,Result.andThen_ok]
     rw[if_pos (by omega)];rfl
   · simp at h
 · simp at h
def Mx (φ:Ph):Option AV→Option Value→Prop
 | none,none=>True
 | some x,some y=>VR φ x y
 | _,_=>False
theorem C_ (isS:Bool) (len Al:Nat) (My HE Fw:Option Value):Instr.sliceBounds isS len Al My HE Fw=(do
 let m←(match Fw with | some v=>Instr.sliceBound v Al (if isS then .slice3Acap else .slice3Alen) | none=>pure Al:Sem Nat)
 let h←(match HE,Fw with | some v,some _=>Instr.sliceBound v m .slice3B | some v,none=>Instr.sliceBound v m (if isS then .sliceAcap else .sliceAlen) | none,none=>pure len | none,some _=>stuck "Slice: max without high" :Sem Nat)
 let l←(match My with | some v=>Instr.sliceBound v h (if Fw.isSome then .slice3C else .sliceB) | none=>pure 0:Sem Nat)
 pure (l,h,m)):=by
 unfold Instr.sliceBounds
 cases Fw<;>cases HE<;>cases My<;>rfl
theorem qk {φ:Ph} {len cap:Nat} {lo hi mx:Option AV} {l h m:Nat} (e:lR len cap lo hi mx=some (l,h,m)) {My HE Fw:Option Value}
 (WH:Mx φ lo My) (WI:Mx φ hi HE) (W_:Mx φ mx Fw) {Al:Nat} (hc:cap≤Al) (isS:Bool) (hlen:len≤cap):
 (∀w,(Instr.sliceBounds isS len Al My HE Fw).run E.P w= .ok (l,h,if mx.isNone then Al else m) w)∧l≤h∧h≤m∧m≤cap∧(mx=none→m=cap):=by
 unfold lR at e
 split at e
 · simp at e
 rename_i m0 hm0
 have hm:(∀w,(match Fw with | some v=>Instr.sliceBound v Al (if isS then .slice3Acap else .slice3Alen) | none=>pure Al:Sem Nat).run E.P w= .ok (if mx.isNone then Al else m0) w)∧m0≤cap∧(mx=none→m0=cap):=by
  cases mx with
  | none=>
    cases Fw with
    | some _=>exact W_.elim
    | none=>simp at hm0;subst hm0;exact ⟨fun w=>rfl,Nat.le_refl _,fun _=>rfl⟩
  | some v=>
    cases Fw with
    | none=>exact W_.elim
    | some v'=>
      have:=fun code=>wX (E:=E) hm0 (show VR φ v v' from W_) hc code
      exact ⟨(this _).1,(this .index).2,fun e=>by simp at e⟩
 split at e
 · simp at e
 rename_i h0 hh0
 have agC:m0≤(if mx.isNone then Al else m0):=by split<;>omega
 have hh:(∀w,(match HE,Fw with | some v,some _=>Instr.sliceBound v (if mx.isNone then Al else m0) .slice3B | some v,none=>Instr.sliceBound v (if mx.isNone then Al else m0) (if isS then .sliceAcap else .sliceAlen) | none,none=>pure len | none,some _=>stuck "Slice: max without high" :Sem Nat).run E.P w= .ok h0 w)∧h0≤m0:=by
  cases hi with
  | none=>
    cases HE with
    | some _=>exact WI.elim
    | none=>
      cases mx with
      | some _=>simp at hh0
      | none=>
        cases Fw with
        | some _=>exact W_.elim
        | none=>simp at hh0;subst hh0;exact ⟨fun w=>rfl,by have:=hm.2.2 rfl;omega⟩
  | some v=>
    cases HE with
    | none=>exact WI.elim
    | some v'=>
      have:=fun code=>wX (E:=E) hh0 (show VR φ v v' from WI) agC code
      cases Fw with
      | none=>exact ⟨(this _).1,(this .index).2⟩
      | some _=>exact ⟨(this _).1,(this .index).2⟩
 split at e
 · simp at e
 rename_i l0 hl0
 simp at e
 obtain ⟨rfl,rfl,rfl⟩:=e
 have hl:(∀w,(match My with | some v=>Instr.sliceBound v h0 (if Fw.isSome then .slice3C else .sliceB) | none=>pure 0:Sem Nat).run E.P w= .ok l0 w)∧l0≤h0:=by
  cases lo with
  | none=>
    cases My with
    | some _=>exact WH.elim
    | none=>simp at hl0;subst hl0;exact ⟨fun w=>rfl,by omega⟩
  | some v=>
    cases My with
    | none=>exact WH.elim
    | some v'=>
      have:=fun code=>wX (E:=E) hl0 (show VR φ v v' from WH) (Nat.le_refl _) code
      exact ⟨(this _).1,(this .index).2⟩
 refine ⟨fun w=>?_,hl.2,hh.2,hm.2.1,hm.2.2⟩
 rw[C_,Sem.run_bind,hm.1 w,Result.andThen_ok,Sem.run_bind,hh.1 w,Result.andThen_ok,Sem.run_bind,hl.1 w]
 rfl
theorem vt (b o n:Nat):(⟨b,o,none⟩:Addr).add n=⟨b,o+n,none⟩:=Addr.add_mid b o n
theorem Mz {φ:Ph} {t:TypeId} {x v:AV} {lo hi mx:Option AV} (e:db E t x lo hi mx=some v) {x':Value} {My HE Fw:Option Value}
 (hx:VR φ x x') (WH:Mx φ lo My) (WI:Mx φ hi HE) (W_:Mx φ mx Fw):∃v',VR φ v v'∧∀w,(Instr.sliceAt t x' My HE Fw).run E.P w= .ok v' w:=by
 unfold db at e
 split at e
 ·
  rename_i n elem i o hu
  cases hx with
  | @ptr _ l _ hφ=>
  split at e
  · rename_i l0 h0 m0 size hb hs
    simp at e;subst e
    obtain ⟨hr,h1,h2,h3,h4⟩:=qk (E:=E) hb WH WI W_ (Nat.le_refl n) false (Nat.le_refl n)
    have hm:(if mx.isNone then n else m0)=m0:=by
     cases mx with
     | none=>simp [h4 rfl]
     | some _=>rfl
    rw[hm] at hr
    refine ⟨_,.slice (if m0=l0 then o else o+l0*size) (h0 - l0) (m0 - l0) false hφ,fun w=>?_⟩
    simp only[Instr.sliceAt,Sem.run_bind,run_underlying hu,Result.andThen_ok,Instr.sureAddr,Sem.run_pure,hr w,eR hs,hQ,Bool.false_eq_true,if_false]
    by_cases hml:m0=l0
    · simp [hml]
    · simp only[hml,if_false,vt];rw[Nat.add_assoc]
  · simp at e
 ·
  rename_i s hu
  split at e
  · rename_i l0 h0 m0 hb
    simp at e;subst e
    generalize hs:s=s0 at hx hb
    cases hx with
    | str s'=>
    subst hs
    have e1:s'.size=s'.data.toList.length:=by cases s';rfl
    cases Fw with
    | some _=>exact W_.elim
    | none=>
    obtain ⟨hr,h1,h2,h3,h4⟩:=qk (E:=E) (mx:=none) (Fw:=none) hb WH WI trivial (Nat.le_refl _) false (Nat.le_refl _)
    refine ⟨.string (s'.extract l0 h0),?_,fun w=>?_⟩
    · have:=VR.str (φ:=φ) (s'.extract l0 h0)
      have e2:(s'.extract l0 h0).data.toList=(s'.data.toList.drop l0).take (h0 - l0):=by
       exact Lib.extract_data s' l0 h0
      rw[e2] at this;exact this
    · have SJ:=hr w
      rw[←e1] at SJ
      simp only[Instr.sliceAt,Instr.slice,Sem.run_bind,run_underlying hu,Result.andThen_ok,Option.isSome_none,Bool.false_eq_true,if_false,SJ,Sem.run_pure]
  · simp at e
 ·
  rename_i elem hu
  cases hx
  split at e
  · rename_i r size hb hs
    simp at e;subst e
    obtain ⟨l0,h0,m0⟩:=r
    obtain ⟨hr,h1,h2,h3,h4⟩:=qk (E:=E) hb WH WI W_ (Nat.le_refl _) true (Nat.le_refl _)
    have hm:(if mx.isNone then 0 else m0)=0:=by split<;>omega
    rw[hm] at hr
    refine ⟨_,.aH,fun w=>?_⟩
    obtain rfl:l0=0:=by omega
    obtain rfl:h0=0:=by omega
    simp only[Instr.sliceAt,Instr.slice,Sem.run_bind,run_underlying hu,Result.andThen_ok,hr w,eR hs,if_true,Sem.run_pure]
  · simp at e
 · rename_i elem i o len cap op hu
   cases hx with
   | @slice _ l _ _ _ _ hφ=>
   split at e
   · rename_i hlc
     split at e
     · rename_i l0 h0 m0 size hb hs
       have hcc:cap≤hQ op cap l.jN:=by unfold hQ;split<;>omega
       obtain ⟨hr,h1,h2,h3,h4⟩:=qk (E:=E) hb WH WI W_ hcc true hlc
       have run:∀w,(Instr.sliceAt t (.slice (some ⟨l.g6,l.off+o,none⟩) len (hQ op cap l.jN)) My HE Fw).run E.P w=
        .ok (.slice (if (if mx.isNone then hQ op cap l.jN else m0)=l0 then some ⟨l.g6,l.off+o,none⟩ else some ⟨l.g6,l.off+o+l0*size,none⟩) (h0 - l0) ((if mx.isNone then hQ op cap l.jN else m0) - l0)) w:=fun w=>by
        simp only[Instr.sliceAt,Instr.slice,Sem.run_bind,run_underlying hu,Result.andThen_ok,hr w,eR hs,Sem.run_pure,Option.map_some,vt]
       split at e
       · rename_i hml
         split at e
         · rename_i rb
           have hmn:mx.isNone=true:=by simp at rb;simpa using rb.2
           simp only[Option.some.injEq] at e;subst e
           have e0:h0 - l0=0:=by omega
           rw[e0] at run
           by_cases hq:(if mx.isNone then hQ op cap l.jN else m0)=l0
           · exact ⟨_,.eN _ _,fun w=>by rw[run w,if_pos hq]⟩
           · exact ⟨_,.eN _ _,fun w=>by rw[run w,if_neg hq]⟩
         · rename_i rb
           simp at e;subst e
           have hcm:(if mx.isNone then hQ op cap l.jN else m0)=m0:=by
            cases hmn:mx with
            | none=>subst hmn;simp at rb;subst rb;simp [hQ,h4 rfl]
            | some _=>rfl
           rw[hcm,if_pos hml] at run
           exact ⟨_,.slice o (h0 - l0) (m0 - l0) false hφ,run⟩
       · rename_i hml
         simp only[Option.some.injEq] at e;subst e
         have eY:¬(if mx.isNone then hQ op cap l.jN else m0)=l0:=by
          split
          · rename_i hmn;have:=h4 (by simpa using hmn);omega
          · exact hml
         rw[if_neg eY,Nat.add_assoc] at run
         refine ⟨_,?_,run⟩
         have:=VR.slice (φ:=φ) (o+l0*size) (h0 - l0) (m0 - l0) (op&&mx.isNone) hφ
         have e2:hQ (op&&mx.isNone) (m0 - l0) l.jN=(if mx.isNone then hQ op cap l.jN else m0) - l0:=by
          cases hmn:mx with
          | none=>
            have h5:=h4 hmn
            cases op with
            | true=>simp [hQ];omega
            | false=>simp [hQ];omega
          | some _=>simp [hQ]
         rw[e2] at this;exact this
     · simp at e
   · simp at e
 · simp at e
end Go.Ab
end
section
namespace Go.Ab
variable {E:Env}
theorem rn:∀(l:List Value) (k off:Nat) (C:Array Value),(l.zipIdx k).foldl (fun cs (x:Value×Nat)=>cs.setIfInBounds (off+x.2) x.1) C=lh C (off+k) l
 | [],_,_,_=>rfl
 | v::vs,k,off,C=>by
   rw[List.zipIdx_cons,List.foldl_cons,rn vs (k+1) off,lh,Nat.add_assoc]
theorem LR.setFrom {φ:Ph}:∀{vs:List AV} {rY:List Value} (_:LR φ vs rY) {cs:List AV} {C:Array Value} (_:LR φ cs C.toList) (o:Nat),LR φ (Ab.setFrom cs o vs) (lh C o rY).toList
 | [],rY,hv,cs,C,hc,o=>by rw[hv.j6];exact hc
 | v::vs,rY,hv,cs,C,hc,o=>by
   obtain ⟨y,ys,rfl,hy,wV⟩:=hv.dB
   rw[Ab.setFrom,lh]
   refine LR.setFrom wV ?_ (o+1)
   rw[Array.toList_setIfInBounds]
   exact hc.set hy o
def PR (φ:Ph) (ps:List (Nat×AV)) (qs:List (Nat×Value)):Prop:=ps.length=qs.length∧∀(i:Nat) (x:Nat×AV) (y:Nat×Value),ps[i]? =some x→qs[i]? =some y→x.1=y.1∧VR φ x.2 y.2
theorem PR.dB {φ:Ph} {x:Nat×AV} {xs:List (Nat×AV)} {ys:List (Nat×Value)} (h:PR φ (x::xs) ys):∃y Aj,ys=y::Aj∧(x.1=y.1∧VR φ x.2 y.2)∧PR φ xs Aj:=by
 obtain ⟨hl,hv⟩:=h
 cases ys with
 | nil=>simp at hl
 | cons y ys=>exact ⟨y,ys,rfl,hv 0 x y (by simp) (by simp),by simpa using hl,fun i a b ha hb=>hv (i+1) a b (by simpa using ha) (by simpa using hb)⟩
theorem Am {φ:Ph} (hg:GL E φ) {ts:List AV} {a:Act} (ht:LR φ ts a.tmps.toList):∀{l:List (Nat×Operand)} {r:List (Nat×AV)} (_:kZ E ts l=some r),PR φ r (l.map fun (i,x)=>(i,a.eval x))
 | [],r,h=>by simp [kZ] at h;subst h;exact ⟨rfl,fun i x y hx _=>by simp at hx⟩
 | (i,o)::rest,r,h=>by
   simp only[kZ] at h
   cases hv:fb E ts o with
   | none=>simp [hv] at h
   | some v=>
     simp only[hv] at h
     cases hr:kZ E ts rest with
     | none=>simp [hr] at h
     | some l=>
       simp only[hr,Option.some.injEq] at h;subst h
       obtain ⟨h1,h2⟩:=Am hg ht hr
       refine ⟨by simpa using h1,fun j x y hx hy=>?_⟩
       cases j with
       | zero=>simp at hx hy;subst hx;subst hy;exact ⟨rfl,oG hg ht hv⟩
       | succ j=>simp at hx;exact h2 j x y hx (by simpa using hy)
theorem vu {φ:Ph} {place:Nat→Option (Nat×Nat)}:∀{ps:List (Nat×AV)} {qs:List (Nat×Value)} (_:PR φ ps qs) {cs jL:List AV} {C:Array Value} (_:LR φ cs C.toList) (_:pw place cs ps=some jL),
 ∃C',Instr.fill place C qs=some C'∧LR φ jL C'.toList
 | [],qs,hp,cs,jL,C,hc,h=>by
   cases qs with
   | nil=>simp [pw] at h;subst h;exact ⟨C,rfl,hc⟩
   | cons q qs=>simp [PR] at hp
 | (i,v)::rest,qs,hp,cs,jL,C,hc,h=>by
   obtain ⟨⟨j,v'⟩,qs',rfl,⟨he,hv⟩,pC⟩:=hp.dB
   simp only at he hv;subst he
   simp only[pw] at h
   simp only[Instr.fill]
   cases Qq:place i with
   | none=>simp [Qq] at h
   | some x=>
     obtain ⟨off,size⟩:=x
     simp only[Qq] at h ⊢
     split at h
     · rename_i SK
       have SL:=hv.cells
       have hl:v'.cells.size=size:=by have:=SL.1;simp at this;omega
       have Sj:C.size=cs.length:=by have:=hc.1;simp at this;omega
       have Ft:(decide (v'.cells.size≠size)||decide (off+v'.cells.size>C.size))=false:=by
        simp only[Bool.or_eq_false_iff,decide_eq_false_iff_not];omega
       simp only[Ft,Bool.false_eq_true,if_false]
       have ad1:(v'.cells.zipIdx.foldl (fun cs (x:Value×Nat)=>cs.setIfInBounds (off+x.2) x.1) C)=lh C off v'.cells.toList:=by
        rw[←Array.foldl_toList]
        have:=rn v'.cells.toList 0 off C
        simpa using this
       rw[ad1]
       exact vu pC (LR.setFrom SL hc off) h
     · simp at h
theorem MA {φ:Ph} {t:TypeId} {ps:List (Nat×AV)} {v:AV} (h:Hx E t ps=some v) {qs:Array (Nat×Value)} (hp:PR φ ps qs.toList):
 ∃v',VR φ v v'∧∀w,(Instr.build t qs).run E.P w= .ok v' w:=by
 unfold Hx at h
 split at h
 · simp at h
 rename_i z hz
 obtain ⟨z',B7,lF⟩:=jZ hz
 split at h
 · rename_i fs hu
   split at h
   · simp at h
   rename_i pl Qq
   split at h
   · rename_i cs hf
     simp at h;subst h
     have aa4:∀w,(fs.mapM fun f=>do pure (f.offset,←sizeOf f.type):Sem (Array (Nat×Nat))).run E.P w= .ok pl.toArray w:=by
      intro w
      have key:∀(l:List Field) (r:List (Nat×Nat)),eX (fun f=>match bU E f.type with | some n=>some (f.offset,n) | none=>none) l=some r→
       (l.mapM fun f=>do pure (f.offset,←sizeOf f.type):Sem (List (Nat×Nat))).run E.P w= .ok r w:=by
       intro l
       induction l with
       | nil=>intro r hr;simp [eX] at hr;subst hr;rfl
       | cons f l ih=>
         intro r hr
         simp only[eX] at hr
         cases hs:bU E f.type with
         | none=>simp [hs] at hr
         | some n=>
           simp only[hs] at hr
           cases hm:eX (fun f=>match bU E f.type with | some n=>some (f.offset,n) | none=>none) l with
           | none=>simp [hm] at hr
           | some ys=>
             simp only[hm,Option.some.injEq] at hr;subst hr
             simp only[List.mapM_cons,Sem.run_bind,eR hs,Result.andThen_ok,Sem.run_pure,ih ys hm]
      have:=key fs.toList pl Qq
      have hh:(fs.mapM fun f=>do pure (f.offset,←sizeOf f.type):Sem (Array (Nat×Nat)))=(do pure (←(fs.toList.mapM fun f=>do pure (f.offset,←sizeOf f.type):Sem (List (Nat×Nat)))).toArray):=by
       rw[Array.mapM_eq_mapM_toList];rfl
      rw[hh,Sem.run_bind,this];rfl
     obtain ⟨C',Bj,Bk⟩:=vu (place:=(pl[·]?)) hp (cs:=z.cells) (C:=z'.cells) (B7 φ).cells hf
     refine ⟨.agg C',by have:=VR.Qo Bk;simpa using this,fun w=>?_⟩
     simp only[Instr.build,Sem.run_bind,lF,Result.andThen_ok,run_underlying hu,aa4 w]
     simp [Bj]
   · simp at h
 · rename_i n elem hu
   split at h
   · simp at h
   rename_i n hn
   split at h
   · rename_i cs hf
     simp at h;subst h
     obtain ⟨C',Bj,Bk⟩:=vu (place:=fun i=>some (i*n,n)) hp (cs:=z.cells) (C:=z'.cells) (B7 φ).cells hf
     refine ⟨.agg C',by have:=VR.Qo Bk;simpa using this,fun w=>?_⟩
     simp [Instr.build,Sem.run_bind,lF,run_underlying hu,eR hn,Bj]
   · simp at h
 · simp at h
theorem JQ {φ:Ph}:∀{l:List AV} {x v:AV} (_:Mr x l=some v) {x':Value} (_:VR φ x x') {l':List Value} (_:LR φ l l'),∃v',VR φ v v'∧∀w,(l'.foldlM Builtin.max2 x').run E.P w= .ok v' w
 | [],x,v,h,x',hx,l',hl=>by
   rw[hl.j6]
   cases x<;>simp [Mr] at h
   subst h;exact ⟨x',hx,fun w=>rfl⟩
 | y::ys,x,v,h,x',hx,l',hl=>by
   obtain ⟨y',Aj,rfl,hy,wV⟩:=hl.dB
   cases x<;>(try (simp [Mr] at h;done))
   cases y<;>(try (simp [Mr] at h;done))
   cases hx;cases hy
   simp only[Mr] at h
   obtain ⟨v',hv,hr⟩:=JQ h (.int _ _) wV
   refine ⟨v',hv,fun w=>?_⟩
   simp only[List.foldlM_cons,Builtin.max2,Sem.run_bind,Sem.run_pure,Result.andThen_ok,hr w]
theorem JR {φ:Ph}:∀{l:List AV} {x v:AV} (_:Ms x l=some v) {x':Value} (_:VR φ x x') {l':List Value} (_:LR φ l l'),∃v',VR φ v v'∧∀w,(l'.foldlM Builtin.min2 x').run E.P w= .ok v' w
 | [],x,v,h,x',hx,l',hl=>by
   rw[hl.j6]
   cases x<;>simp [Ms] at h
   subst h;exact ⟨x',hx,fun w=>rfl⟩
 | y::ys,x,v,h,x',hx,l',hl=>by
   obtain ⟨y',Aj,rfl,hy,wV⟩:=hl.dB
   cases x<;>(try (simp [Ms] at h;done))
   cases y<;>(try (simp [Ms] at h;done))
   cases hx;cases hy
   simp only[Ms] at h
   obtain ⟨v',hv,hr⟩:=JR h (.int _ _) wV
   refine ⟨v',hv,fun w=>?_⟩
   simp only[List.foldlM_cons,Builtin.min2,Sem.run_bind,Sem.run_pure,Result.andThen_ok,hr w]
theorem map_toArray (f:Operand→Value) (l:Array Operand):l.map f=(l.toList.map f).toArray:=by apply Array.ext';simp
def ZQ (E:Env):Prop:=∀f e,E.nN f=some e→∀vs r,e vs=some r→∀φ (rY:List Value),LR φ vs rY→
 ∃r',VR φ r r'∧∀w,(callFunc f rY.toArray).run E.P w= .ok (.value r') w
theorem fI {s:Sem Value} {v:Value} {P:Program} {w w':World} (h:s.run P w= .ok v w'):(do pure (.value (←s)):Sem Next).run P w= .ok (.value v) w':=by
 rw[Sem.run_bind,h];rfl
theorem HF {φ:Ph} (hg:GL E φ) {ts:List AV} {a:Act} (ht:LR φ ts a.tmps.toList) {o:Option Operand} {r:Option AV} (h:nZ E ts o=some r):Mx φ r (o.map a.eval):=by
 cases o with
 | none=>simp [nZ] at h;subst h;trivial
 | some o=>
   simp only[nZ] at h
   split at h
   · rename_i v hv;simp at h;subst h;exact oG hg ht hv
   · simp at h
theorem ug {P:Program} {t:TypeId} {d:TypeDesc} (hu:P.underlying t=some d) (hd:∀m,d= .interface m→False) (v:Value) (xT:TypeId) (ok:Bool) (w:World):
 (Instr.typeAssert (.iface t v) xT t ok).run P w= .ok (if ok then .tuple #[v,.bool true] else v) w:=by
 rw[Instr.typeAssert,Sem.run_bind,run_underlying hu]
 cases d<;>first | (exact (hd _ rfl).elim) | (simp;done)
theorem B8 {P:Program} {t u:TypeId} {d:TypeDesc} (hu:P.underlying t=some d) (hd:∀m,d= .interface m→False) (v:Value) (xT:TypeId) (eY:u≠t) {z:Value} (w:World) (hz:(zeroValue t).run P w= .ok z w):
 (Instr.typeAssert (.iface u v) xT t true).run P w= .ok (.tuple #[z,.bool false]) w:=by
 rw[Instr.typeAssert,Sem.run_bind,run_underlying hu]
 cases d<;>first | (exact (hd _ rfl).elim) | (simp [eY,hz];done)
theorem Da {P:Program} {t:TypeId} {d:TypeDesc} (hu:P.underlying t=some d) (hd:∀m,d= .interface m→False) (xT:TypeId) {z:Value} (w:World) (hz:(zeroValue t).run P w= .ok z w):
 (Instr.typeAssert .nilIface xT t true).run P w= .ok (.tuple #[z,.bool false]) w:=by
 rw[Instr.typeAssert,Sem.run_bind,run_underlying hu]
 cases d<;>first | (exact (hd _ rfl).elim) | (simp [hz];done)
set_option maxHeartbeats 1000000 in
theorem Bl (ad2:ZQ E) {φ:Ph} (hg:GL E φ) {ts:List AV} {a:Act} (ht:LR φ ts a.tmps.toList) {o:Oper} {v:AV} (h:bC E ts o.op=some v):
 ∃v',VR φ v v'∧∀w,(execOp a.eval o).run E.P w= .ok (.value v') w:=by
 have ev:∀{x:Operand} {v:AV},fb E ts x=some v→VR φ v (a.eval x):=fun h=>oG hg ht h
 unfold execOp
 generalize o.op=op at h ⊢
 unfold bC at h
 split at h
 · exact ⟨_,ev h,fun w=>rfl⟩
 · exact ⟨_,ev h,fun w=>rfl⟩
 ·
  split at h
  · rename_i hc
    have:=ev hc
    generalize mf:a.eval _=cv at this
    cases this
    exact ⟨_,ev h,fun w=>by simp [mf,asBool]⟩
  · rename_i hc
    have:=ev hc
    generalize mf:a.eval _=cv at this
    cases this
    exact ⟨_,ev h,fun w=>by simp [mf,asBool]⟩
  · simp at h
 ·
  rename_i t parts
  split at h
  · rename_i ps hps
    have hp:=Am hg ht hps
    obtain ⟨v',hv,hr⟩:=MA (φ:=φ) h (qs:=parts.map fun (i,x)=>(i,a.eval x)) (by simpa using hp)
    exact ⟨v',hv,fun w=>fI (hr w)⟩
  · simp at h
 ·
  split at h<;>(try (simp at h;done))
  all_goals
   rename_i hx
   have:=ev hx
   generalize mf:a.eval _=cv at this
   cases this
   simp only[Option.some.injEq] at h;subst h
   first
    | exact ⟨_,.ptr _ ‹_›,fun w=>by simp [mf]⟩
    | exact ⟨_,.map ‹_›,fun w=>by simp [mf]⟩
    | exact ⟨_,.slice _ _ _ _ ‹_›,fun w=>by simp [mf]⟩
    | exact ⟨_,.func _ _ _ _ _ ‹_› ‹_› ‹_› ‹_›,fun w=>by simp [mf]⟩
 ·
  split at h
  · rename_i hx hy
    obtain ⟨v',hv,hr⟩:=SI h (ev hx) (ev hy)
    exact ⟨v',hv,fun w=>fI (hr w)⟩
  · simp at h
 ·
  split at h
  · rename_i hx
    obtain ⟨v',hv,hr⟩:=W9 (E:=E) h (ev hx)
    exact ⟨v',hv,fun w=>fI (hr w)⟩
  · simp at h
 ·
  split at h
  · rename_i hs hd hx
    have:=ev hx
    generalize mf:a.eval _=cv at this
    cases this
    simp at h;subst h
    refine ⟨_,.int _ _,fun w=>fI ?_⟩
    simp [mf,convert,run_underlying hs,run_underlying hd,Conv.intToInt]
  · rename_i d s hs hd hx
    have:=ev hx
    generalize mf:a.eval _=cv at this
    simp at h;subst h
    generalize MB:s=s0 at this
    cases this
    subst MB
    refine ⟨_,.str _,fun w=>fI ?_⟩
    simp [mf,convert,run_underlying hs,run_underlying hd]
  · rename_i d k n hs hd hx
    have:=ev hx
    generalize mf:a.eval _=cv at this
    cases this
    unfold OH at h
    split at h
    · rename_i h0
      simp at h;subst h
      have he:Utf8.encode n=⟨#[UInt8.ofNat n.toNat]⟩:=by
       have hv:Utf8.valid n=true:=by simp [Utf8.valid];omega
       have h1:n.toNat<0x80:=by omega
       simp [Utf8.encode,hv,h1]
      refine ⟨.string ⟨#[UInt8.ofNat n.toNat]⟩,.str ⟨#[UInt8.ofNat n.toNat]⟩,fun w=>fI ?_⟩
      rw[←he]
      cases d<;>simp [mf,convert,run_underlying hs,run_underlying hd,Conv.intToString]
    · simp at h
  · simp at h
 ·
  split at h
  · simp at h
  · rename_i d v0 hn hu hx
    simp at h;subst h
    refine ⟨_,.iface _ _ _ (ev hx),fun w=>fI ?_⟩
    rw[Instr.makeInterface,Sem.run_bind,run_underlying hu]
    cases d<;>first | (exact (hn _ rfl).elim) | rfl
  · simp at h
 ·
  rename_i f first captured
  split at h
  · rename_i ha hb
    simp at h;subst h
    have h1:=iM hg ht ha
    have h2:=iM hg ht hb
    refine ⟨.func (.func f) (first.map a.eval) (captured.map a.eval),?_,fun w=>fI rfl⟩
    rw[map_toArray,map_toArray]
    exact VR.Sz f h1 h2
  · simp at h
 ·
  split at h
  · rename_i hx hl hh hm
    obtain ⟨v',hv,hr⟩:=Mz h (ev hx) (HF hg ht hl) (HF hg ht hh) (HF hg ht hm)
    exact ⟨v',hv,fun w=>fI (hr w)⟩
  · simp at h
 ·
  split at h
  · rename_i fd i o0 hf hx
    split at h
    · rename_i n hn
      split at h
      · simp at h
      · rename_i WJ
        simp at h;subst h
        have:=ev hx
        generalize mf:a.eval _=cv at this
        cases this with
        | @ptr _ l _ hφ=>
        refine ⟨_,.ptr _ hφ,fun w=>fI ?_⟩
        unfold n5 at hf
        split at hf
        · rename_i fs hu
          simp [mf,Instr.fieldAt,run_underlying hu,hf,Instr.sureAddr,fieldPlace,eR hn,WJ,vt,Nat.add_assoc]
        · simp at hf
    · simp at h
  · simp at h
 ·
  split at h
  · rename_i fd cs hf hx
    have:=ev hx
    generalize mf:a.eval _=cv at this
    obtain ⟨jL,rfl,Bk⟩:=this.kL
    obtain ⟨v',hv,hr⟩:=rl Bk h
    refine ⟨v',hv,fun w=>fI ?_⟩
    unfold n5 at hf
    split at hf
    · rename_i fs hu
      have:=hr w
      simp [mf,Instr.field,run_underlying hu,hf,asAgg] at this ⊢
      exact this
    · simp at hf
  · simp at h
 ·
  split at h
  · rename_i len elem i o0 k n hu hx hi
    split at h
    · rename_i size hs
      split at h
      · rename_i hb
        simp at h;subst h
        have h1:=ev hx
        have h2:=ev hi
        generalize mf:a.eval _=cv at h1
        generalize hcw:a.eval _=cw at h2
        cases h1 with
        | @ptr _ l _ hφ=>
        cases h2
        refine ⟨_,.ptr _ hφ,fun w=>fI ?_⟩
        simp [mf,hcw,Instr.indexAt,asIntOf,run_underlying hu,Instr.sureAddr,hb,eR hs,vt,Nat.add_assoc]
      · simp at h
    · simp at h
  · rename_i elem i o0 len cap op k n hu hx hi
    split at h
    · rename_i size hs
      split at h
      · rename_i hb
        simp at h;subst h
        have h1:=ev hx
        have h2:=ev hi
        generalize mf:a.eval _=cv at h1
        generalize hcw:a.eval _=cw at h2
        cases h1 with
        | @slice _ l _ _ _ _ hφ=>
        cases h2
        refine ⟨_,.ptr _ hφ,fun w=>fI ?_⟩
        simp [mf,hcw,Instr.indexAt,asIntOf,run_underlying hu,hb,eR hs,vt,Nat.add_assoc]
      · simp at h
    · simp at h
  · simp at h
 ·
  split at h
  · rename_i len elem cs k n hu hx hi
    split at h
    · rename_i size hs
      split at h
      · rename_i hb
        have h1:=ev hx
        have h2:=ev hi
        generalize mf:a.eval _=cv at h1
        generalize hcw:a.eval _=cw at h2
        obtain ⟨jL,rfl,Bk⟩:=h1.kL
        cases h2
        obtain ⟨v',hv,hr⟩:=rl Bk h
        refine ⟨v',hv,fun w=>fI ?_⟩
        have:=hr w
        simp [mf,hcw,Instr.index,asIntOf,run_underlying hu,hb,eR hs] at this ⊢
        exact this
      · simp at h
    · simp at h
  · rename_i s k n hu hx hi
    split at h
    · rename_i hn
      split at h
      · rename_i b hb
        simp at h;subst h
        have h1:=ev hx
        have h2:=ev hi
        generalize mf:a.eval _=cv at h1
        generalize hcw:a.eval _=cw at h2
        generalize MB:s=s0 at h1
        cases h1 with
        | str s'=>
        subst MB
        cases h2
        refine ⟨_,.int _ _,fun w=>fI ?_⟩
        have ZR:s'[n.toNat]? =some b:=by
         have:s'.data[n.toNat]? =some b:=by simpa using hb
         rw[←this];rfl
        simp [mf,hcw,Instr.index,asIntOf,run_underlying hu,hn,ZR]
      · simp at h
    · simp at h
  · simp at h
 ·
  split at h
  · rename_i vs hx
    have h1:=ev hx
    generalize mf:a.eval _=cv at h1
    obtain ⟨rY,rfl,Bk⟩:=h1.Gn
    obtain ⟨y,hy,hv⟩:=Bk.get h
    refine ⟨y,hv,fun w=>fI ?_⟩
    simp at hy
    simp [mf,Instr.extract,hy]
  · simp at h
 ·
  split at h
  · simp at h
  · rename_i d t v0 hn hu hx
    have h1:=ev hx
    generalize mf:a.eval _=cv at h1
    cases h1 with
    | iface _ _ v1 hv1=>
    split at h
    · rename_i hta
      subst hta
      simp at h;subst h
      split
      · rename_i qI
        refine ⟨.tuple #[v1,.bool true],VR.tuple' (jL:=[v1,.bool true]) (.cons hv1 (.cons (.bool true) (.nil φ))),fun w=>fI ?_⟩
        rw[mf,ug hu hn,qI];rfl
      · rename_i qI
        refine ⟨v1,hv1,fun w=>fI ?_⟩
        rw[mf,ug hu hn];simp [qI]
    · rename_i hta
      split at h
      · rename_i qI
        split at h
        · rename_i z hz
          simp at h;subst h
          obtain ⟨z',B7,lF⟩:=jZ hz
          refine ⟨.tuple #[z',.bool false],VR.tuple' (jL:=[z',.bool false]) (.cons (B7 φ) (.cons (.bool false) (.nil φ))),fun w=>fI ?_⟩
          rw[mf,qI];exact B8 hu hn _ _ hta w (lF w)
        · simp at h
      · simp at h
  · rename_i d hn hu hx
    have h1:=ev hx
    generalize mf:a.eval _=cv at h1
    cases h1
    split at h
    · rename_i qI
      split at h
      · rename_i z hz
        simp at h;subst h
        obtain ⟨z',B7,lF⟩:=jZ hz
        refine ⟨.tuple #[z',.bool false],VR.tuple' (jL:=[z',.bool false]) (.cons (B7 φ) (.cons (.bool false) (.nil φ))),fun w=>fI ?_⟩
        rw[mf,qI];exact Da hu hn _ w (lF w)
      · simp at h
    · simp at h
  · simp at h
 ·
  split at h
  · rename_i t v0 Sk MC
    have hl:=iM hg ht MC
    obtain ⟨y,ys,wV,hy,HG⟩:=hl.dB
    rw[HG.j6] at wV
    have Db:∀(args:Array Operand),args.toList.map a.eval=[y]→args.map a.eval= #[y]:=fun args e=>by rw[map_toArray,e]
    have h0:=Db _ wV
    split at h<;>(try (simp at h;done))
    all_goals
     rename_i hu
     simp only[Option.some.injEq] at h;subst h
    · generalize MB:AV.str _=s0 at hy
      cases hy<;>cases MB
      rename_i s'
      refine ⟨_,.int _ _,fun w=>?_⟩
      simp [resolve,invoke,builtin,h0,Builtin.len_,Sk,run_underlying hu,goInt]
      try rfl
    · refine ⟨_,.int _ _,fun w=>?_⟩
      simp [resolve,invoke,builtin,h0,Builtin.len_,Sk,run_underlying hu,goInt]
    · cases hy
      refine ⟨_,.int _ _,fun w=>?_⟩
      simp [resolve,invoke,builtin,h0,Builtin.len_,Sk,run_underlying hu,goInt]
    · cases hy
      refine ⟨_,.int _ _,fun w=>?_⟩
      simp [resolve,invoke,builtin,h0,Builtin.len_,Sk,run_underlying hu,goInt]
    · cases hy
      refine ⟨_,.int _ _,fun w=>?_⟩
      simp [resolve,invoke,builtin,h0,Builtin.len_,Sk,run_underlying hu,goInt]
    · cases hy
      refine ⟨_,.int _ _,fun w=>?_⟩
      simp [resolve,invoke,builtin,h0,Builtin.len_,Sk,run_underlying hu,goInt]
  · simp at h
 ·
  split at h
  · rename_i t v0 Sk MC
    have hl:=iM hg ht MC
    obtain ⟨y,ys,wV,hy,HG⟩:=hl.dB
    rw[HG.j6] at wV
    have Db:∀(args:Array Operand),args.toList.map a.eval=[y]→args.map a.eval= #[y]:=fun args e=>by rw[map_toArray,e]
    have h0:=Db _ wV
    split at h<;>(try (simp at h;done))
    all_goals
     rename_i hu
     simp only[Option.some.injEq] at h;subst h
    · refine ⟨_,.int _ _,fun w=>?_⟩
      simp [resolve,invoke,builtin,h0,Builtin.cap_,Sk,run_underlying hu,goInt]
    · cases hy
      refine ⟨_,.int _ _,fun w=>?_⟩
      simp [resolve,invoke,builtin,h0,Builtin.cap_,Sk,run_underlying hu,goInt]
    · cases hy
      refine ⟨_,.int _ _,fun w=>?_⟩
      simp [resolve,invoke,builtin,h0,Builtin.cap_,Sk,run_underlying hu,goInt,hQ]
  · simp at h
 ·
  rename_i args _
  split at h
  · rename_i x rest MC
    have hl:=iM hg ht MC
    obtain ⟨y,ys,wV,hy,pC⟩:=hl.dB
    obtain ⟨v',hv,hr⟩:=JQ (E:=E) h hy pC
    refine ⟨v',hv,fun w=>?_⟩
    have h0:args.map a.eval=(y::ys).toArray:=by rw[map_toArray,wV]
    have:=hr w
    simp [resolve,invoke,builtin,h0,Builtin.max_,this]
  · simp at h
 ·
  rename_i args _
  split at h
  · rename_i x rest MC
    have hl:=iM hg ht MC
    obtain ⟨y,ys,wV,hy,pC⟩:=hl.dB
    obtain ⟨v',hv,hr⟩:=JR (E:=E) h hy pC
    refine ⟨v',hv,fun w=>?_⟩
    have h0:args.map a.eval=(y::ys).toArray:=by rw[map_toArray,wV]
    have:=hr w
    simp [resolve,invoke,builtin,h0,Builtin.min_,this]
  · simp at h
 ·
  rename_i f args _
  split at h
  · rename_i e vs he MC
    have hl:=iM hg ht MC
    obtain ⟨r',hr,iv⟩:=ad2 f e he vs v h φ _ hl
    refine ⟨r',hr,fun w=>?_⟩
    have:=iv w
    rw[←map_toArray] at this
    simpa [resolve,Deferred.ofValue,invoke,Act.eval] using this
  · simp at h
 · simp at h
end Go.Ab
end
section
namespace Go.Ab
variable {E:Env}
theorem HI {P:Program} {t:TypeId} {k:IntKind} (hu:P.underlying t=some (.int k)) (b:Bool) (n:Nat) (v:Value) (w:World):
 (Instr.checkKey b (n+1) t v).run P w= .ok () w:=by
 unfold Instr.checkKey
 rw[Sem.run_bind,run_underlying hu]
 rfl
theorem uh {φ:Ph} {t:TypeId} {d:TypeDesc} {k:AV} (hu:E.P.underlying t=some d) (hk:nO E (some d) k=true) {k':Value} (h:VR φ k k') (b:Bool) (n:Nat) (w:World):
 (Instr.checkKey b (n+2) t k').run E.P w= .ok () w:=by
 unfold nO at hk
 split at hk
 · rename_i fs xs hd
   cases hd
   obtain ⟨C2,rfl,Fv⟩:=h.kL
   unfold Instr.checkKey
   rw[Sem.run_bind,run_underlying hu]
   simp only[Result.andThen_ok]
   have key:∀l:List Field,(l.all fun f=>match E.P.underlying f.type,iK E f.type xs f.offset with
    | some (.int _),some (.int _ _)=>true
    | _,_=>false)=true→
    (forIn (m:=Sem) l PUnit.unit fun f (_:PUnit)=>if f.name≠ "_" then (do let x←part f.type C2 f.offset;Instr.checkKey b (n+1) f.type x;pure (ForInStep.yield PUnit.unit)) else pure (ForInStep.yield PUnit.unit)).run E.P w= .ok PUnit.unit w:=by
    intro l
    induction l with
    | nil=>intro _;rfl
    | cons f l ih=>
      intro ha
      rw[List.all_cons,Bool.and_eq_true] at ha
      obtain ⟨hf,hl⟩:=ha
      have h2:=ih hl
      split at hf
      · rename_i ki kj z e1 e2
        obtain ⟨v',_,hr⟩:=rl Fv e2
        rw[Array.toArray_toList] at hr
        simp only[List.forIn_cons,Sem.run_bind]
        split
        · simp only[Sem.run_bind,hr,Result.andThen_ok,HI e1,Sem.run_pure,h2]
        · simp only[Sem.run_pure,Result.andThen_ok,h2]
      · cases hf
   have:=key fs.toList hk
   rw[Array.forIn_toList] at this
   first | exact this | (simp only[Sem.run_bind,this];rfl)
 · cases hk
theorem Gs {φ:Ph}:∀{xs ys:List AV} {C2 Aj:List Value},tU xs ys=true→LR φ xs C2→LR φ ys Aj→Aj=C2∧(Aj.zip C2).all (fun (x,y)=>Instr.sameBits 9999 x y)=true
 | [],[],C2,Aj,_,h,h'=>by rw[h.j6,h'.j6];exact ⟨rfl,rfl⟩
 | .int k a::xs,.int j b::ys,C2,Aj,e,h,h'=>by
   obtain ⟨x,xs2,rfl,hx,Fv⟩:=h.dB
   obtain ⟨y,ys2,rfl,hy,wV⟩:=h'.dB
   simp only[tU,Bool.and_eq_true,decide_eq_true_eq] at e
   obtain ⟨⟨rfl,rfl⟩,e⟩:=e
   cases hx;cases hy
   obtain ⟨h1,h2⟩:=Gs e Fv wV
   subst h1
   refine ⟨rfl,?_⟩
   rw[List.zip_cons_cons,List.all_cons,h2,Bool.and_true]
   simp [Instr.sameBits]
theorem HJ {φ:Ph} {xs ys:List AV} (e:tU xs ys=true) {k' j':Value} (h:VR φ (.agg xs) k') (h':VR φ (.agg ys) j'):Instr.sameBits 10000 j' k'=true∧j'=k':=by
 obtain ⟨a,rfl,ha⟩:=h.kL
 obtain ⟨b,rfl,hb⟩:=h'.kL
 obtain ⟨h1,h2⟩:=Gs e ha hb
 have ZS:b=a:=by cases b;cases a;simp at h1;subst h1;rfl
 subst ZS
 refine ⟨?_,rfl⟩
 rw[Instr.sameBits]
 simp only[beq_self_eq_true,Bool.true_and]
 exact h2
def Xa (φ:Ph) (k j:AV):Prop:=∀{k' j':Value},VR φ k k'→VR φ j j'→Instr.sameBits 10000 j' k'=true∧j'=k'
theorem rp {φ:Ph} {key:TypeId} {k:AV} {k':Value} (h:VR φ k k'):∀{es:List lW} {lU:List MapEntry} (_:SA φ es lU) {i:Nat} {r:Option (Nat×AV)} (_:findD E key k es i=some r),
 ∃r',(∀w,(Instr.findAsking key k' lU i).run E.P w= .ok r' w)∧(match r,r' with | none,none=>True | some (j,v),some (j',v')=>j=j'∧VR φ v v'∧i≤j∧∃e,es[j - i]? =some e∧Xa φ k e.key | _,_=>False)
 | [],lU,he,i,r,e=>by
   cases lU with
   | nil=>simp [findD] at e;subst e;exact ⟨none,fun w=>rfl,trivial⟩
   | cons _ _=>simp [SA] at he
 | x::es,lU,he,i,r,e=>by
   obtain ⟨hl,hv⟩:=he
   cases lU with
   | nil=>simp at hl
   | cons y ys=>
     have hx:=hv 0 x y (by simp) (by simp)
     simp only[findD] at e
     split at e
     · rename_i heq
       split at e
       · rename_i zs hz _
         split at e
         · rename_i hs
           simp at e;subst e
           refine ⟨some (i,y.val),fun w=>?_,rfl,hx.val,Nat.le_refl _,x,by simp,?_⟩
           · have q:=pB 16 9984 key _ _ true _ _ heq h hx.key w
             simp only[Instr.findAsking,Sem.run_bind,Op.equal]
             rw[show Op.maxDepth=9984+16 from rfl,q]
             rfl
           · intro a b ha hb
             rw[hz] at hb
             exact HJ hs ha hb
         · cases e
       · cases e
     · rename_i heq
       obtain ⟨r',h1,h2⟩:=rp h (es:=es) (lU:=ys) ⟨by simpa using hl,fun i a b p q=>hv (i+1) a b (by simpa using p) (by simpa using q)⟩ e
       refine ⟨r',fun w=>?_,?_⟩
       · have q:=pB 16 9984 key _ _ false _ _ heq h hx.key w
         simp only[Instr.findAsking,Sem.run_bind,Op.equal]
         rw[show Op.maxDepth=9984+16 from rfl,q]
         exact h1 w
       · cases r with
         | none=>cases r' with
           | none=>trivial
           | some _=>exact h2
         | some p=>
           obtain ⟨j,v⟩:=p
           cases r' with
           | none=>exact h2
           | some q=>
             obtain ⟨j',v'⟩:=q
             obtain ⟨h3,h4,h5,e',h6,h7⟩:=h2
             refine ⟨h3,h4,by omega,e',?_,h7⟩
             rw[show j - i=(j -(i+1))+1 by omega];simpa using h6
     · cases e
theorem o6 {φ:Ph} {key:TypeId} {d:TypeDesc} {k:AV} (hd:E.P.underlying key=some d) (hk:nO E (some d) k=true) {k':Value} (h:VR φ k k') {lU:List MapEntry} {r':Option (Nat×Value)} {w:World} (hr:(Instr.findAsking key k' lU 0).run E.P w= .ok r' w):
 (Instr.findKey key k' lU).run E.P w= .ok r' w:=by
 unfold nO at hk
 split at hk
 · rename_i fs xs hdd
   cases hdd
   obtain ⟨C2,rfl,Fv⟩:=h.kL
   rw[Instr.findKey,Sem.run_bind,run_underlying hd]
   simp only[Result.andThen_ok]
   cases lU with
   | nil=>exact hr
   | cons y ys=>
     have:Instr.findNow (.struct fs) (.agg C2) (y::ys) 0=none:=rfl
     rw[this]
     exact hr
 · cases hk
end Go.Ab
end
section
namespace Go.Ab
variable {E:Env}
theorem OK.cells {φ:Ph} {h:au} {w:World} (ok:OK E φ h w) {i:Nat} {cs:List AV} {e:TypeId} {ro:Bool} (hg:h.get i=some (.cells cs e ro)) {l:Loc} (hl:φ i=some l):
 ∃C e' lo hi,w.heap[l.g6]? =some (.cells C e' (lo,hi))∧CR E φ cs e ro l C lo hi:=by
 exact ok.live i _ l hg hl
theorem Gt {φ:Ph} {h:au} {w:World} (ok:OK E φ h w) {t:TypeId} {av v:AV} {v':Value} (hv:VR φ av v') (e:bh E h t av=some v):
 ∃x',VR φ v x'∧∀w',w'.heap=w.heap→(Instr.loadAt t v').run E.P w'= .ok x' w':=by
 unfold bh at e
 split at e
 · rename_i i o
   cases hv with
   | @ptr _ l _ hφ=>
   split at e
   · rename_i cs el ro hg
     obtain ⟨C,e',lo,hi,hb,hc⟩:=ok.cells hg hφ
     unfold iK at e
     split at e
     · rename_i ha
       split at e
       · rename_i n hn
         split at e
         · rename_i hle
           simp at e;subst e
           obtain ⟨vs,hvl,Mg,Bk⟩:=hc.range o n hle
           refine ⟨.agg vs.toArray,VR.Qo Bk,fun w' hw'=>?_⟩
           rw[←hw'] at hb
           have Dc:=o5 (P:=E.P) hb (l.off+o) vs Mg
           rw[hvl] at Dc
           simp only[Instr.loadAt,Instr.sureAddr,Sem.run_bind,Sem.run_pure,Result.andThen_ok,loadVar,rW ha,if_true,eR hn,Dc]
         · simp at e
       · simp at e
     · rename_i ha
       obtain ⟨y,hy,hr⟩:=hc.val o v e
       refine ⟨y,hr,fun w' hw'=>?_⟩
       rw[←hw'] at hb
       simp only[Instr.loadAt,Instr.sureAddr,Sem.run_bind,Sem.run_pure,Result.andThen_ok,loadVar,rW ha,Bool.false_eq_true,if_false,run_load,rV hb,hy]
     · simp at e
   · simp at e
 · simp at e
theorem JS {P:Program} (l:List Int):∀(vs:List Value) (acc:ByteArray) (w:World),vs=l.map (fun n=>Value.int .u8 n)→
 (forIn vs acc (fun c s=>(match c with | .int .u8 n=>do pure (ForInStep.yield (s.push (UInt8.ofNat n.toNat))) | _=>do stuck "bytesToString: byte expected";pure (ForInStep.yield s):Sem (ForInStep ByteArray)))).run P w= .ok ⟨(acc.data.toList++l.map (fun n=>UInt8.ofNat n.toNat)).toArray⟩ w:=by
 induction l with
 | nil=>intro vs acc w h;simp at h;subst h;simp [List.forIn_nil]
 | cons b l ih=>
   intro vs acc w h
   cases vs with
   | nil=>simp at h
   | cons v vs=>
     simp at h
     obtain ⟨rfl,MC⟩:=h
     simp only[List.forIn_cons,Sem.run_bind,Sem.run_pure,Result.andThen_ok]
     rw[ih vs _ w MC]
     simp [ByteArray.push]
theorem Gu {φ:Ph} {d:TypeDesc} {k j:AV} {r:Bool} (hk:jn (some d) k=true) (e:Gk k j=some r) {k' j':Value} (h:VR φ k k') (h':VR φ j j'):Instr.sameNow d k' j'=some r:=by
 unfold Gk at e
 split at e
 · generalize hs:AV.str _=s at h
   generalize rX:AV.str _=s' at h'
   cases h<;>cases hs
   cases h'<;>cases rX
   simp at e;subst e
   cases d<;>simp [jn] at hk
   rename_i s s'
   simp only[Instr.sameNow]
   congr 1
 · cases h;cases h'
   split at e
   · rename_i Dd
     simp at e;subst e;subst Dd
     cases d<;>simp [jn] at hk
     simp [Instr.sameNow]
   · simp at e
 · cases h;cases h'
   simp at e;subst e
   cases d<;>simp [jn] at hk
   simp [Instr.sameNow]
 · simp at e
theorem rq {φ:Ph} {d:TypeDesc} {k:AV} {k':Value} (hk:jn (some d) k=true) (h:VR φ k k'):∀{es:List lW} {lU:List MapEntry} (_:SA φ es lU) {i:Nat} {r:Option (Nat×AV)} (_:tV k es i=some r),
 ∃r',Instr.findNow d k' lU i=some r'∧(match r,r' with | none,none=>True | some (j,v),some (j',v')=>j=j'∧VR φ v v'∧i≤j∧∃e,es[j - i]? =some e∧Gk k e.key=some true | _,_=>False)
 | [],lU,he,i,r,e=>by
   cases lU with
   | nil=>simp [tV] at e;subst e;exact ⟨none,rfl,trivial⟩
   | cons _ _=>simp [SA] at he
 | x::es,lU,he,i,r,e=>by
   obtain ⟨hl,hv⟩:=he
   cases lU with
   | nil=>simp at hl
   | cons y ys=>
     have hx:=hv 0 x y (by simp) (by simp)
     simp only[tV] at e
     split at e
     · rename_i heq
       simp at e;subst e
       refine ⟨some (i,y.val),?_,rfl,hx.val,Nat.le_refl _,x,by simp,heq⟩
       simp [Instr.findNow,Gu hk heq h hx.key]
     · rename_i heq
       obtain ⟨r',h1,h2⟩:=rq hk h (es:=es) (lU:=ys) ⟨by simpa using hl,fun i a b p q=>hv (i+1) a b (by simpa using p) (by simpa using q)⟩ e
       refine ⟨r',?_,?_⟩
       · simp [Instr.findNow,Gu hk heq h hx.key,h1]
       · cases r with
         | none=>cases r' with
           | none=>trivial
           | some _=>exact h2
         | some p=>
           obtain ⟨j,v⟩:=p
           cases r' with
           | none=>exact h2
           | some q=>
             obtain ⟨j',v'⟩:=q
             obtain ⟨h3,h4,h5,e',h6,h7⟩:=h2
             refine ⟨h3,h4,by omega,e',?_,h7⟩
             rw[show j - i=(j -(i+1))+1 by omega];simpa using h6
     · simp at e
theorem rZ {P:Program} {t:TypeId} {d:TypeDesc} (hu:P.underlying t=some d) {k:AV} (hk:jn (some d) k=true) {φ:Ph} {k':Value} (h:VR φ k k') (b:Bool) (n:Nat) (w:World):
 (Instr.checkKey b (n+1) t k').run P w= .ok () w:=by
 unfold Instr.checkKey
 rw[Sem.run_bind,run_underlying hu]
 cases d<;>simp [jn] at hk<;>cases h<;>first | rfl | (simp [jn] at hk)
theorem yq {P:Program} {w:World} {a:Addr} {n:Nat} (l:List Int) (hl:(loadCells a n).run P w= .ok ((l.map (fun n=>Value.int .u8 n)).toArray) w) (c:Nat):
 (Conv.bytesToString (.slice (some a) n c)).run P w= .ok (.string ⟨(l.map (fun n=>UInt8.ofNat n.toNat)).toArray⟩) w:=by
 unfold Conv.bytesToString
 simp only[Sem.run_bind,hl,Result.andThen_ok]
 have:=JS (P:=P) l (l.map (fun n=>Value.int .u8 n)) ByteArray.empty w rfl
 have e:forIn (m:=Sem) (l.map (fun n=>Value.int .u8 n)).toArray ByteArray.empty (fun c s=>(match c with | .int .u8 n=>do pure (ForInStep.yield (s.push (UInt8.ofNat n.toNat))) | _=>do stuck "bytesToString: byte expected";pure (ForInStep.yield s):Sem (ForInStep ByteArray)))
  =forIn (m:=Sem) (l.map (fun n=>Value.int .u8 n)) ByteArray.empty (fun c s=>(match c with | .int .u8 n=>do pure (ForInStep.yield (s.push (UInt8.ofNat n.toNat))) | _=>do stuck "bytesToString: byte expected";pure (ForInStep.yield s):Sem (ForInStep ByteArray))):=by
  rw[←Array.forIn_toList]
 rw[←e] at this
 refine (congrArg (fun r=>Result.andThen r fun a w'=>Sem.run P (pure (Value.string a)) w') this).trans ?_
 simp
theorem Bm {φ:Ph}:∀{cs:List AV} {vs:List Value} (_:LR φ cs vs) {l:List UInt8} (_:eX (fun | .int .u8 b=>some (UInt8.ofNat b.toNat) | _=>none) cs=some l),
 ∃ns:List Int,vs=ns.map (fun n=>Value.int .u8 n)∧l=ns.map (fun n=>UInt8.ofNat n.toNat)
 | [],vs,hv,l,h=>by rw[hv.j6];simp [eX] at h;subst h;exact ⟨[],rfl,rfl⟩
 | c::cs,vs,hv,l,h=>by
   obtain ⟨y,ys,rfl,hy,wV⟩:=hv.dB
   simp only[eX] at h
   split at h
   · simp at h
   · rename_i b hb
     split at h
     · simp at h
     · rename_i bs hbs
       simp at h;subst h
       obtain ⟨ns,rfl,rfl⟩:=Bm wV hbs
       split at hb
       · cases hy
         simp at hb;subst hb
         exact ⟨_::ns,rfl,rfl⟩
       · simp at hb
structure Entries (P:Program) (x:Value) (es:Array MapEntry) (w:World):Prop where
 is:(x= .map none∧es= #[])∨∃r clock,x= .map (some r)∧w.heap[r]? =some (.map es clock)
theorem De {P:Program} {t key elem:TypeId} (hu:P.underlying t=some (.map key elem)) {x k:Value} {es:Array MapEntry} {w:World} (An:Entries P x es w)
 {d:TypeDesc} (hd:P.underlying key=some d) (Mh:∀b n,(Instr.checkKey b (n+1) key k).run P w= .ok () w) {r:Option (Nat×Value)} (hf:Instr.findNow d k es.toList 0=some r) {z:Value} (hz:r=none→(zeroValue elem).run P w= .ok z w) (ok:Bool):
 (Instr.lookup t x k ok).run P w= .ok (match r with | some (_,v)=>if ok then .tuple #[v,.bool true] else v | none=>if ok then .tuple #[z,.bool false] else z) w:=by
 have Qs:=fun b=>Mh b 9999
 rw[Instr.lookup]
 simp only[Sem.run_bind,run_underlying hu,Result.andThen_ok]
 rcases An.is with ⟨rfl,rfl⟩ | ⟨b,clock,rfl,hb⟩
 · simp only[Sem.run_bind,Sem.run_pure,Result.andThen_ok,Qs,Instr.findKey,run_underlying hd,hf]
   cases r with
   | none=>simp [hz rfl]
   | some q=>simp
 · have Fx:(getObj b).run P w= .ok (.map es clock) w:=by simp [getObj,Sem.run,hb]
   simp only[Sem.run_bind,Sem.run_pure,Result.andThen_ok,Fx,Qs,Instr.findKey,run_underlying hd,hf]
   cases r with
   | none=>simp [hz rfl]
   | some q=>simp
theorem Bn {P:Program} {t key elem:TypeId} (hu:P.underlying t=some (.map key elem)) {x k:Value} {es:Array MapEntry} {w:World} (An:Entries P x es w)
 (Mh:∀b,(Instr.checkKey b 10000 key k).run P w= .ok () w) {r:Option (Nat×Value)} (hf:(Instr.findKey key k es.toList).run P w= .ok r w) {z:Value} (hz:r=none→(zeroValue elem).run P w= .ok z w) (ok:Bool):
 (Instr.lookup t x k ok).run P w= .ok (match r with | some (_,v)=>if ok then .tuple #[v,.bool true] else v | none=>if ok then .tuple #[z,.bool false] else z) w:=by
 rw[Instr.lookup]
 simp only[Sem.run_bind,run_underlying hu,Result.andThen_ok]
 rcases An.is with ⟨rfl,rfl⟩ | ⟨b,clock,rfl,hb⟩
 · simp only[Sem.run_bind,Sem.run_pure,Result.andThen_ok,Mh,hf]
   cases r with
   | none=>simp [hz rfl]
   | some q=>simp
 · have Fx:(getObj b).run P w= .ok (.map es clock) w:=by simp [getObj,Sem.run,hb]
   simp only[Sem.run_bind,Sem.run_pure,Result.andThen_ok,Fx,Mh,hf]
   cases r with
   | none=>simp [hz rfl]
   | some q=>simp
theorem Bo {φ:Ph} (hg:GL E φ) {h:au} {w:World} (ok:OK E φ h w) {ts:List AV} {a:Act} (ht:LR φ ts a.tmps.toList) {o:Oper} {v:AV} (e:eH E ts h o.op=some v):
 ∃v',VR φ v v'∧∀w',w'.heap=w.heap→(execOp a.eval o).run E.P w'= .ok (.value v') w':=by
 have ev:∀{x:Operand} {v:AV},fb E ts x=some v→VR φ v (a.eval x):=fun h=>oG hg ht h
 unfold execOp
 generalize o.op=op at e ⊢
 unfold eH at e
 split at e
 ·
  split at e
  · rename_i hx
    obtain ⟨x',hx',hr⟩:=Gt ok (ev hx) e
    exact ⟨x',hx',fun w' hw=>fI (hr w' hw)⟩
  · simp at e
 ·
  split at e
  · rename_i el v0 hs hd hx
    split at e
    · rename_i he
      simp at e;subst e
      have h1:=ev hx
      generalize mf:a.eval _=cv at h1
      cases h1
      refine ⟨.string .empty,VR.str .empty,fun w' _=>fI ?_⟩
      simp [mf,convert,run_underlying hs,run_underlying hd,run_underlying he,Conv.bytesToString]
    · rename_i i o len _ _ he
      split at e
      · rename_i l hb
        simp at e;subst e
        have h1:=ev hx
        generalize mf:a.eval _=cv at h1
        cases h1 with
        | @slice _ lc _ _ _ _ hφ=>
        unfold Hy at hb
        split at hb
        · rename_i cs el' ro hgc
          split at hb
          · rename_i hle
            obtain ⟨C,e',lo,hi,hbk,hc⟩:=ok.cells hgc hφ
            obtain ⟨vs,hvl,Mg,Bk⟩:=hc.range o len hle
            obtain ⟨ns,rfl,rfl⟩:=Bm Bk hb
            refine ⟨.string ⟨(ns.map (fun n=>UInt8.ofNat n.toNat)).toArray⟩,?_,fun w' hw'=>fI ?_⟩
            · have:=VR.str (φ:=φ) ⟨(ns.map (fun n=>UInt8.ofNat n.toNat)).toArray⟩
              simpa using this
            · rw[←hw'] at hbk
              have Dc:=o5 (P:=E.P) hbk (lc.off+o) _ Mg
              rw[hvl] at Dc
              have:=yq ns Dc (hQ ‹_› ‹_› lc.jN)
              rw[mf]
              simp only[convert,Sem.run_bind,run_underlying hs,run_underlying hd,Result.andThen_ok,run_underlying he]
              exact this
          · simp at hb
        · simp at hb
      · simp at e
    · simp at e
  · simp at e
 ·
  rename_i t x ix hJ
  split at e
  · rename_i key elem m k hu hm hk
    split at e
    · rename_i Dd
      have MD:∃d,E.P.underlying key=some d∧jn (some d) k=true:=by
       cases hd:E.P.underlying key with
       | none=>rw[hd] at Dd;simp [jn] at Dd
       | some d=>rw[hd] at Dd;exact ⟨d,rfl,Dd⟩
      obtain ⟨d,hd,Df⟩:=MD
      have Xb:=ev hm
      have SM:=ev hk
      split at e
      · simp at e
      · rename_i es An
        have Ao:∃lU:Array MapEntry,SA φ es lU.toList∧∀w',w'.heap=w.heap→Entries E.P (a.eval x) lU w':=by
         split at An
         · simp at An;subst An
           generalize mf:a.eval x=cv at Xb
           cases Xb
           exact ⟨#[],⟨rfl,fun i x y p _=>by simp at p⟩,fun w' _=>⟨.inl ⟨rfl,rfl⟩⟩⟩
         · rename_i i
           split at An
           · rename_i es0 clock hgm
             simp at An;subst An
             generalize mf:a.eval x=cv at Xb
             cases Xb with
             | @map _ l hφ=>
             have E9:=ok.live i _ l hgm hφ
             obtain ⟨SN,lU,hb,lZ⟩:=E9
             exact ⟨lU,lZ,fun w' hw=>⟨.inr ⟨l.g6,clock,rfl,by rw[hw];exact hb⟩⟩⟩
           · simp at An
         · simp at An
        obtain ⟨lU,lZ,iv⟩:=Ao
        split at e
        · simp at e
        · rename_i j v0 hf
          obtain ⟨r',h1,h2⟩:=rq Df SM lZ hf
          cases r' with
          | none=>exact h2.elim
          | some q=>
          obtain ⟨j',v'⟩:=q
          obtain ⟨_,Mg,_⟩:=h2
          simp at e;subst e
          refine ⟨if hJ then .tuple #[v',.bool true] else v',?_,fun w' hw=>fI ?_⟩
          · split
            · exact VR.tuple' (jL:=[v',.bool true]) (.cons Mg (.cons (.bool true) (.nil φ)))
            · exact Mg
          · exact De hu (iv w' hw) hd (fun b n=>rZ hd Df SM b n w') h1 (z:=undef) (fun e=>by simp at e) hJ
        · rename_i hf
          obtain ⟨r',h1,h2⟩:=rq Df SM lZ hf
          cases r' with
          | some q=>exact h2.elim
          | none=>
          split at e
          · rename_i z hz
            simp at e;subst e
            obtain ⟨z',B7,lF⟩:=jZ hz
            refine ⟨if hJ then .tuple #[z',.bool false] else z',?_,fun w' hw=>fI ?_⟩
            · split
              · exact VR.tuple' (jL:=[z',.bool false]) (.cons (B7 φ) (.cons (.bool false) (.nil φ)))
              · exact B7 φ
            · exact De hu (iv w' hw) hd (fun b n=>rZ hd Df SM b n w') h1 (fun _=>lF w') hJ
          · simp at e
    · split at e
      · rename_i Dd
        have MD:∃d,E.P.underlying key=some d∧nO E (some d) k=true:=by
         cases hd:E.P.underlying key with
         | none=>rw[hd] at Dd;simp [nO] at Dd
         | some d=>rw[hd] at Dd;exact ⟨d,rfl,Dd⟩
        obtain ⟨d,hd,Df⟩:=MD
        have Xb:=ev hm
        have SM:=ev hk
        split at e
        · simp at e
        · rename_i es An
          have Ao:∃lU:Array MapEntry,SA φ es lU.toList∧∀w',w'.heap=w.heap→Entries E.P (a.eval x) lU w':=by
           split at An
           · simp at An;subst An
             generalize mf:a.eval x=cv at Xb
             cases Xb
             exact ⟨#[],⟨rfl,fun i x y p _=>by simp at p⟩,fun w' _=>⟨.inl ⟨rfl,rfl⟩⟩⟩
           · rename_i i
             split at An
             · rename_i es0 clock hgm
               simp at An;subst An
               generalize mf:a.eval x=cv at Xb
               cases Xb with
               | @map _ l hφ=>
               have E9:=ok.live i _ l hgm hφ
               obtain ⟨SN,lU,hb,lZ⟩:=E9
               exact ⟨lU,lZ,fun w' hw=>⟨.inr ⟨l.g6,clock,rfl,by rw[hw];exact hb⟩⟩⟩
             · simp at An
           · simp at An
          obtain ⟨lU,lZ,iv⟩:=Ao
          split at e
          · simp at e
          · rename_i j v0 hf
            obtain ⟨r',h1,h2⟩:=rp SM lZ hf
            cases r' with
            | none=>exact h2.elim
            | some q=>
            obtain ⟨j',v'⟩:=q
            obtain ⟨_,Mg,_⟩:=h2
            simp at e;subst e
            refine ⟨if hJ then .tuple #[v',.bool true] else v',?_,fun w' hw=>fI ?_⟩
            · split
              · exact VR.tuple' (jL:=[v',.bool true]) (.cons Mg (.cons (.bool true) (.nil φ)))
              · exact Mg
            · exact Bn hu (iv w' hw) (fun b=>uh hd Df SM b 9998 w') (o6 hd Df SM (h1 w')) (z:=undef) (fun e=>by simp at e) hJ
          · rename_i hf
            obtain ⟨r',h1,h2⟩:=rp SM lZ hf
            cases r' with
            | some q=>exact h2.elim
            | none=>
            split at e
            · rename_i z hz
              simp at e;subst e
              obtain ⟨z',B7,lF⟩:=jZ hz
              refine ⟨if hJ then .tuple #[z',.bool false] else z',?_,fun w' hw=>fI ?_⟩
              · split
                · exact VR.tuple' (jL:=[z',.bool false]) (.cons (B7 φ) (.cons (.bool false) (.nil φ)))
                · exact B7 φ
              · exact Bn hu (iv w' hw) (fun b=>uh hd Df SM b 9998 w') (o6 hd Df SM (h1 w')) (fun _=>lF w') hJ
            · simp at e
      · simp at e
  · simp at e
 ·
  split at e
  · rename_i t i Sk MC
    have hl:=iM hg ht MC
    obtain ⟨y,ys,wV,hy,HG⟩:=hl.dB
    rw[HG.j6] at wV
    have h0:∀(args:Array Operand),args.toList.map a.eval=[y]→args.map a.eval= #[y]:=fun args e=>by rw[map_toArray,e]
    have h0:=h0 _ wV
    cases hy with
    | @map _ l hφ=>
    split at e
    · rename_i es clock hu hgm
      simp at e;subst e
      have E9:=ok.live i _ l hgm hφ
      obtain ⟨SN,lU,hb,hlen,_⟩:=E9
      refine ⟨_,.int _ _,fun w' hw=>?_⟩
      rw[←hw] at hb
      have Fx:(getObj l.g6).run E.P w'= .ok (.map lU clock) w':=by simp [getObj,Sem.run,hb]
      simp [resolve,invoke,builtin,h0,Builtin.len_,Sk,run_underlying hu,goInt,Fx,hlen]
    · simp at e
  · simp at e
 · simp at e
end Go.Ab
end
section
namespace Go.Ab
variable {E:Env}
theorem yr (z:List AV):∀(n i:Nat),i<n*z.length→(bT z n)[i]? =z[i%z.length]?
 | 0,i,h=>by omega
 | n+1,i,h=>by
   rw[bT]
   by_cases hi:i<z.length
   · rw[List.getElem?_append_left hi,Nat.mod_eq_of_lt hi]
   · rw[List.getElem?_append_right (by omega),yr z n (i - z.length) (by rw[Nat.add_mul] at h;omega)]
     rw[Nat.mod_eq_sub_mod (a:=i) (by omega)]
theorem oH (z:List AV):∀n,(bT z n).length=n*z.length
 | 0=>by simp [bT]
 | n+1=>by rw[bT,List.length_append,oH z n,Nat.add_mul];omega
theorem ME {φ:Ph} {z:List AV} {z':Array Value} (h:LR φ z z'.toList) (n:Nat):LR φ (bT z n) ((Array.range (n*z'.size)).map (fun i=>z'[i%z'.size]!)).toList:=by
 have hl:z.length=z'.size:=by simpa using h.1
 refine ⟨by rw[oH];simp [hl],fun i x y hx hy=>?_⟩
 have hi:i<n*z.length:=by
  have:=(List.getElem?_eq_some_iff.1 hx).1
  rwa [oH] at this
 rw[yr z n i hi] at hx
 obtain ⟨v,hv,hr⟩:=h.get hx
 have aa5:0<z'.size:=by
  rcases Nat.eq_zero_or_pos z'.size with h0 | h0
  · rw[hl,h0] at hi;omega
  · exact h0
 have:i%z'.size<z'.size:=Nat.mod_lt _ aa5
 rw[hl] at hi
 simp [hi] at hy
 rw[hl] at hv
 simp [this] at hv
 simp [this] at hy
 rw[←hy,hv];exact hr
structure Made (E:Env) (φ:Ph) (obj:aM) (mk:Nat→AV) (O:Obj) (mk':Nat→Value):Prop where
 val:∀(φ':Ph) (i b:Nat),φ.le φ'→φ' i=some ⟨b,0,0⟩→VR φ' (mk i) (mk' b)
 obj:∀(φ':Ph) (b:Nat),φ.le φ'→OR E φ' obj ⟨b,0,0⟩ (some O)
theorem yu {φ φ':Ph} (hle:φ.le φ') {cs:List AV} {C:Array Value} (h:LR φ cs C.toList) (t e:TypeId) (b:Nat):OR E φ' (.cells cs t false) ⟨b,0,0⟩ (some (.cells C e)):=by
 refine ⟨C,e,0,0,rfl,?_,fun k x hk=>?_,fun _ k _ _=>by omega,fun _ _ _=>rfl⟩
 · have:=h.1;simp at this;simp [f',this]
 · obtain ⟨y,hy,hr⟩:=h.get hk
   exact ⟨y,by simpa using hy,hr.mono hle⟩
set_option linter.unusedSimpArgs false in
set_option maxHeartbeats 1000000 in
theorem yv {φ:Ph} (hg:GL E φ) {ts:List AV} {a:Act} (ht:LR φ ts a.tmps.toList) {o:Oper} {obj:aM} {mk:Nat→AV} (e:eO E ts o.op=some (obj,mk)):
 ∃O mk',Made E φ obj mk O mk'∧∀w,(execOp a.eval o).run E.P w= .ok (.value (mk' w.heap.size)) (w.alloc O):=by
 have ev:∀{x:Operand} {v:AV},fb E ts x=some v→VR φ v (a.eval x):=fun h=>oG hg ht h
 unfold execOp
 generalize o.op=op at e ⊢
 unfold eO at e
 split at e
 ·
  rename_i t
  split at e
  · rename_i z hz
    simp at e;obtain ⟨rfl,rfl⟩:=e
    obtain ⟨z',B7,lF⟩:=jZ hz
    refine ⟨.cells z'.cells t,fun b=> .pointer (some ⟨b,0,none⟩),⟨fun φ' i b _ hi=>by have:=VR.ptr (φ:=φ') 0 hi;simpa using this,fun φ' b hle=>yu hle (B7 φ).cells _ _ b⟩,fun w=>fI ?_⟩
    simp [Instr.alloc,lF,newVar,newRow]
  · simp at e
 ·
  rename_i t x
  split at e
  · rename_i v hv
    simp at e;obtain ⟨rfl,rfl⟩:=e
    refine ⟨.cells (a.eval x).cells t,fun b=> .pointer (some ⟨b,0,none⟩),⟨fun φ' i b _ hi=>by have:=VR.ptr (φ:=φ') 0 hi;simpa using this,fun φ' b hle=>yu hle (ev hv).cells _ _ b⟩,fun w=>fI ?_⟩
    simp [Instr.box,newVar,newRow]
  · simp at e
 ·
  rename_i t len parts
  split at e
  · rename_i elem hu
    split at e
    · rename_i n z ps hn hz hps
      split at e
      · rename_i hc
        split at e
        · rename_i cs hf
          simp at e;obtain ⟨rfl,rfl⟩:=e
          obtain ⟨z',B7,lF⟩:=jZ hz
          have hp:=Am hg ht hps
          have hzl:z'.cells.size=n:=by have:=(B7 φ).cells.1;simp at this;omega
          have SO:=ME (B7 φ).cells len
          rw[hzl] at SO
          obtain ⟨C',Bj,Bk⟩:=vu (place:=fun i=>some (i*n,n)) (qs:=(parts.map fun (i,x)=>(i,a.eval x)).toList) (by simpa using hp) SO hf
          refine ⟨.cells C' elem,fun b=> .slice (some ⟨b,0,none⟩) len len,⟨fun φ' i b _ hi=>by have:=VR.slice (φ:=φ') 0 len len false hi;simpa [hQ] using this,fun φ' b hle=>yu hle Bk _ _ b⟩,fun w=>fI ?_⟩
          have h24:¬len*n>2^24:=by omega
          simp only[Instr.buildSlice,Sem.run_bind,run_underlying hu,Result.andThen_ok,eR hn,h24,if_false,Sem.run_pure]
          by_cases h0:len*n=0
          · simp only[h0,if_true,Sem.run_pure,Result.andThen_ok]
            rw[h0] at Bj
            have r0:Array.range 0= #[]:=rfl
            simp [r0] at Bj
            simp [Bj,newRow,r0]
          · simp only[h0,if_false,Sem.run_bind,lF,Result.andThen_ok,Sem.run_pure]
            rw[hzl]
            simp only[Bj]
            simp [newRow]
        · simp at e
      · simp at e
    · simp at e
  · simp at e
 ·
  rename_i t lo co
  split at e
  · rename_i elem k len k' cap hu hl hc
    split at e
    · rename_i n bytes z hn hb hz
      split at e
      · rename_i SK
        obtain ⟨c1,c2,c3,c4,c5⟩:=SK
        simp at e;obtain ⟨rfl,rfl⟩:=e
        obtain ⟨z',B7,lF⟩:=jZ hz
        have hzl:z'.cells.size=n:=by have:=(B7 φ).cells.1;simp at this;omega
        have SO:=ME (B7 φ).cells cap.toNat
        rw[hzl] at SO
        have h1:=ev hl
        have h2:=ev hc
        generalize hlv:a.eval lo=lv at h1
        generalize mf:a.eval co=cv at h2
        cases h1;cases h2
        refine ⟨.cells ((Array.range (cap.toNat*n)).map (fun i=>z'.cells[i%n]!)) elem,fun b=> .slice (some ⟨b,0,none⟩) len.toNat cap.toNat,
         ⟨fun φ' i b _ hi=>by have:=VR.slice (φ:=φ') 0 len.toNat cap.toNat false hi;simpa [hQ] using this,fun φ' b hle=>yu hle SO _ _ b⟩,fun w=>fI ?_⟩
        have w1:IntKind.i64.wrap len=len:=IntWalk.i64_in _ (by omega)
        have w2:IntKind.i64.wrap cap=cap:=IntWalk.i64_in _ (by omega)
        obtain ⟨inf,JT,mE⟩:=rk hb w
        have t1:¬(cap<0∨(2^48:Int)<bytes*cap):=by omega
        simp only[Instr.makeSlice,Sem.run_bind,run_underlying hu,Result.andThen_ok,hlv,mf,asInt,asIntOf,Sem.run_pure,JT,mE,w1,w2]
        have hb0:(0:Int)≤inf.bytes*cap:=Int.mul_nonneg (by omega) (by omega)
        have tl:(decide (cap<0)||decide ((inf.bytes:Int)*cap>2^48))=false:=by
         rw[mE];simp only[Bool.or_eq_false_iff,decide_eq_false_iff_not];omega
        have tl2:decide (len<0)=false:=by simp only[decide_eq_false_iff_not];omega
        have tl3:decide (len>cap)=false:=by simp only[decide_eq_false_iff_not];omega
        rw[←mE]
        simp only[tl,tl2,tl3,Bool.or_self,Bool.false_eq_true,if_false,run_askRoom,eR hn,Sem.run_bind,Result.andThen_ok]
        by_cases h0:cap.toNat*n=0
        · have r0:Array.range 0= #[]:=rfl
          simp [h0,newRow,r0]
        · simp only[h0,if_false,Sem.run_bind,lF,Result.andThen_ok,Sem.run_pure]
          simp [newRow,hzl]
      · simp at e
    · simp at e
  · simp at e
 ·
  rename_i t r
  split at e
  · simp at e;obtain ⟨rfl,rfl⟩:=e
    exact ⟨.map #[] 0,fun b=> .map (some b),⟨fun φ' i b _ hi=>by have:=VR.map (φ:=φ') hi;simpa using this,fun φ' b hle=>⟨rfl, #[],rfl,rfl,fun i x y p _=>by simp at p⟩⟩,fun w=>fI (by simp [Instr.makeMap])⟩
  · rename_i o
    split at e
    · rename_i hu hv
      simp at e;obtain ⟨rfl,rfl⟩:=e
      have h1:=ev hv
      generalize hlv:a.eval o=lv at h1
      cases h1
      exact ⟨.map #[] 0,fun b=> .map (some b),⟨fun φ' i b _ hi=>by have:=VR.map (φ:=φ') hi;simpa using this,fun φ' b hle=>⟨rfl, #[],rfl,rfl,fun i x y p _=>by simp at p⟩⟩,fun w=>fI (by simp [Instr.makeMap,run_underlying hu,hlv,asInt,asIntOf])⟩
    · simp at e
 ·
  rename_i t x
  split at e
  · rename_i s hu hx
    simp at e;obtain ⟨rfl,rfl⟩:=e
    have h1:=ev hx
    generalize hlv:a.eval x=lv at h1
    generalize MB:AV.str s=s0 at h1
    cases h1<;>cases MB
    rename_i s'
    exact ⟨.stringIter s' 0,fun b=> .pointer (some ⟨b,0,none⟩),⟨fun φ' i b _ hi=>by have:=VR.ptr (φ:=φ') 0 hi;simpa using this,fun φ' b hle=>⟨rfl,s',rfl,rfl⟩⟩,fun w=>fI (by simp [Instr.range,run_underlying hu,hlv])⟩
  · rename_i hu hx
    simp at e;obtain ⟨rfl,rfl⟩:=e
    have h1:=ev hx
    generalize hlv:a.eval x=lv at h1
    cases h1
    exact ⟨.mapIter none 0 #[] 0,fun b=> .pointer (some ⟨b,0,none⟩),⟨fun φ' i b _ hi=>by have:=VR.ptr (φ:=φ') 0 hi;simpa using this,fun φ' b hle=>⟨rfl,rfl⟩⟩,fun w=>fI (by simp [Instr.range,run_underlying hu,hlv])⟩
  · simp at e
 · simp at e
end Go.Ab
end
