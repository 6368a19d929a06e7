import Derived.Laws.StructEq
import Derived.Laws.Slices
import Derived.Laws.Strings
import Derived.ChangeKeysEq
import Derived.Deep.MidRow
import Derived.Lib.Strings
import Derived.IntWalk
import Derived.Test.YtjohpcpopggbkaaGreatA0
set_option linter.unusedVariables false
set_option linter.unusedSimpArgs false
section
namespace Go.Ab
variable {E:Env}
def GL (E:Env) (φ:Ph):Prop:=∀g,g<E.G→φ g=some ⟨g,0,0⟩
theorem kR {φ:Ph} (hg:GL E φ) {ts:List AV} {a:Act} (ht:LR φ ts a.tmps.toList) {x:Operand} {v:AV} (h:dr E ts x=some v):VR φ v (a.eval x):=by
 cases x with
 | tmp t=>
   simp only[dr,Option.some.injEq] at h;subst h
   have:=ht.getD (VR.undef φ) t
   rw[show a.eval (.tmp t)=a.tmps.toList.getD t undef by simp [Act.eval,Array.getD_eq_getD_getElem?,List.getD]]
   exact this
 | const c=>exact vk φ h
 | global g=>
   simp only[dr] at h
   split at h
   · rename_i jT;simp at h;subst h;have:=VR.ptr 0 (hg g jT);simpa [Act.eval] using this
   · simp at h
 | func f=>simp [dr] at h;subst h;exact VR.G7 (a':=[]) (b':=[]) f (LR.nil φ) (LR.nil φ)
theorem fO {φ:Ph} (hg:GL E φ) {ts:List AV} {a:Act} (ht:LR φ ts a.tmps.toList) {l:List Operand} {r:List AV} (h:eF E ts l=some r):LR φ r (l.map a.eval):=by
 obtain ⟨hl,hv⟩:=oX h
 refine ⟨by simp [hl],fun i x y hx hy=>?_⟩
 simp at hy
 obtain ⟨o,ho,rfl⟩:=hy
 obtain ⟨z,hz,he⟩:=hv i o ho
 rw[hx] at hz;simp at hz;subst hz
 exact kR hg ht he
theorem dk {P:Program} {t:TypeId} {n:Nat} (h:(P.info? t).map (·.size)=some n) (w:World):(sizeOf t).run P w= .ok n w:=by
 cases hq:P.info? t with
 | none=>simp [hq] at h
 | some i=>simp [hq] at h;simp [sizeOf,typeInfo,hq,h]
theorem m7 {P:Program} {t:TypeId} {n:Nat} (h:(P.info? t).map (·.bytes)=some n) (w:World):∃i,(typeInfo t).run P w= .ok i w∧i.bytes=n:=by
 cases hq:P.info? t with
 | none=>simp [hq] at h
 | some i=>simp [hq] at h;exact ⟨i,by simp [typeInfo,hq],h⟩
theorem gM {t:TypeId} {z:AV} (h:eW E t=some z):∃z',(∀φ,VR φ z z')∧∀w,(zeroValue t).run E.P w= .ok z' w:=by
 unfold eW at h
 split at h
 · rename_i i hi
   split at h
   · rename_i z' hz
     exact ⟨z',fun φ=>vk φ h,fun w=>by simp [zeroValue,typeInfo,hi,hz]⟩
   · simp at h
 · simp at h
theorem nK {t:TypeId} {b:Bool} (h:eM E t=some b) (w:World):(isAgg t).run E.P w= .ok b w:=by
 unfold eM at h
 unfold isAgg
 rw[Sem.run_bind]
 split at h<;>rename_i hu<;>simp at h
 · subst h;rw[run_underlying hu];rfl
 · subst h;rw[run_underlying hu];rfl
 · rename_i d h1 h2
   subst h;rw[run_underlying hu]
   cases d<;>first | rfl | (exact absurd rfl (h1 _)) | (exact absurd rfl (h2 _ _))
theorem toArray_extract (l:List Value) (a b:Nat):l.toArray.extract a b=((l.drop a).take (b - a)).toArray:=by simp
theorem m8 {φ:Ph} {t:TypeId} {cs:List AV} {gG:List Value} (hc:LR φ cs gG) {off:Nat} {v:AV} (h:g7 E t cs off=some v):
 ∃v',VR φ v v'∧∀w,(part t gG.toArray off).run E.P w= .ok v' w:=by
 unfold g7 at h
 split at h
 · rename_i ha
   split at h
   · rename_i n hn
     split at h
     · simp at h;subst h
       refine ⟨.agg ((gG.drop off).take n).toArray,VR.E9 ((hc.drop off).take n),fun w=>?_⟩
       simp only[part,Sem.run_bind,nK ha,Result.andThen_ok,if_true,dk hn,Sem.run_pure,toArray_extract,Nat.add_sub_cancel_left]
     · simp at h
   · simp at h
 · rename_i ha
   obtain ⟨y,hy,hv⟩:=hc.get h
   refine ⟨y,hv,fun w=>?_⟩
   simp only[part,Sem.run_bind,nK ha,Result.andThen_ok,Bool.false_eq_true,if_false]
   have:gG.toArray[off]? =some y:=by simpa using hy
   simp [this]
 · simp at h
theorem bytes_beq (a b:ByteArray):(a.toList==b.toList)=(a.data.toList==b.data.toList):=by rw[ByteArray.toList_eq,ByteArray.toList_eq]
set_option linter.unusedSimpArgs false in
theorem CE {φ:Ph} {op:BinOp} {k:IntKind} {x y:Int} {v:AV} (h:cG op k x y=some v) (hs:op≠ .shl) (nL:op≠ .shr) (t:TypeId):
 ∃v',VR φ v v'∧∀w,(binOp op t (.int k x) (.int k y)).run E.P w= .ok v' w:=by
 unfold cG at h
 split at h
 all_goals first
  | (simp at h;subst h;exact ⟨_,.int _ _,fun w=>by simp [binOp,Op.intArith,Op.intBits,Op.intCmp]⟩)
  | (simp at h;subst h;exact ⟨_,.bool _,fun w=>by simp [binOp,Op.intArith,Op.intBits,Op.intCmp]⟩)
  | (split at h
     · simp at h
     · rename_i hy
       simp at h;subst h;exact ⟨_,.int _ _,fun w=>by simp [binOp,Op.intDiv,hy]⟩)
  | simp at h
set_option linter.unusedSimpArgs false in
theorem CG {φ:Ph} {op:BinOp} {x y:ByteArray} {v:AV} (h:oR op x.data.toList y.data.toList=some v) (t:TypeId):
 ∃v',VR φ v v'∧∀w,(binOp op t (.string x) (.string y)).run E.P w= .ok v' w:=by
 unfold oR at h
 split at h
 · split at h
   · rename_i jT
     simp at h;subst h
     refine ⟨.string (x++y),?_,fun w=>?_⟩
     · have:=VR.str (φ:=φ) (x++y);simpa using this
     · have Ya:x.size+y.size<1099511627776:=by
        have e:∀b:ByteArray,b.size=b.data.toList.length:=fun b=>by cases b;rfl
        rw[e,e];exact jT
       have hm:IntKind.i64.max=9223372036854775807:=by decide
       have:¬((x.size+y.size:Nat):Int) >IntKind.i64.max:=by rw[hm];omega
       simp only[binOp,Op.stringOp,this,if_false,Sem.run_pure]
   · simp at h
 all_goals first
  | (simp only[Option.some.injEq] at h;subst h;exact ⟨_,.bool _,fun w=>by simp only[binOp,Op.stringOp,bytes_beq,ByteArray.toList_eq,Sem.run_pure]⟩)
  | simp at h
theorem yh {φ:Ph} {t:TypeId} {x y:AV} {r:Bool} (h:E8 E t x y=some r) {x' y':Value} (hx:VR φ x x') (hy:VR φ y y') (dd:Nat):
 ∀w,(Op.equalIn (dd+1) t x' y').run E.P w= .ok r w:=by
 intro w
 unfold E8 at h
 split at h<;>(try (simp at h;done))
 all_goals
  rename_i hd
  split at h<;>(try (simp at h;done))
  all_goals
   simp only[Option.some.injEq] at h
   subst h
   unfold Op.equalIn
   rw[Sem.run_bind,run_underlying hd]
   cases hx<;>cases hy<;>rfl
theorem AO {φ:Ph} {t:TypeId} {x y:AV} {r:Bool} (h:E8 E t x y=some r) {x' y':Value} (hx:VR φ x x') (hy:VR φ y y'):
 ∀w,(Op.equal t x' y').run E.P w= .ok r w:=yh h hx hy 9999
theorem mN {φ:Ph} {eq:TypeId→AV→AV→Option Bool} {d:Nat} (heq:∀t a b r a' b',eq t a b=some r→VR φ a a'→VR φ b b'→∀w,(Op.equalIn d t a' b').run E.P w= .ok r w)
 {xs ys:List AV} {vi sZ:Array Value} (hx:LR φ xs vi.toList) (hy:LR φ ys sZ.toList):∀{fs:List Field} {r:Bool} (_:lK E eq xs ys fs=some r) (w:World),(Op.eqFields d vi sZ fs).run E.P w= .ok r w
 | [],r,h,w=>by simp [lK] at h;subst h;rfl
 | f::fs,r,h,w=>by
   simp only[lK] at h
   unfold Op.eqFields
   split at h
   · rename_i hn
     rw[if_neg (by simp [hn])]
     exact mN heq hx hy h w
   · rename_i hn
     rw[if_pos hn]
     split at h
     · rename_i a b ha hb
       obtain ⟨a',Ws,Ui⟩:=m8 hx ha
       obtain ⟨b',Wt,Uj⟩:=m8 hy hb
       rw[Array.toArray_toList] at Ui Uj
       split at h
       · rename_i he
         have:=mN heq hx hy h w
         simp [Sem.run_bind,Ui,Uj,heq _ _ _ _ _ _ he Ws Wt,this]
       · rename_i he
         simp at h;subst h
         simp [Sem.run_bind,Ui,Uj,heq _ _ _ _ _ _ he Ws Wt]
       · simp at h
     · simp at h
theorem lR {φ:Ph}:∀(n d:Nat) (t:TypeId) (a b:AV) (r:Bool) (a' b':Value) (_:jb E n t a b=some r) (_:VR φ a a') (_:VR φ b b') (w:World),(Op.equalIn (d+n) t a' b').run E.P w= .ok r w
 | 0,_,_,_,_,_,_,_,h,_,_,_=>by simp [jb] at h
 | n+1,d,t,a,b,r,a',b',h,ha,hb,w=>by
   rw[←Nat.add_assoc]
   unfold jb at h
   split at h
   · cases ha;cases hb
     split at h
     · rename_i hu
       split at h
       · rename_i hk;subst hk
         simp at h;subst h
         exact run_equalIn_int w (d+n) t _ _ _ _ hu
       · simp at h
     · simp at h
   · cases ha;cases hb
     split at h
     · rename_i hu
       simp only[Option.some.injEq] at h;subst h
       rw[run_equalIn_string w (d+n) t _ _ hu,ByteArray.toList_eq,ByteArray.toList_eq]
     · simp at h
   · obtain ⟨vi,rfl,AP⟩:=ha.hX
     obtain ⟨sZ,rfl,qL⟩:=hb.hX
     split at h
     · rename_i fs hu
       split at h
       · rename_i gZ
         have Tr:E.P.fieldsOf t=fs:=by simp [Program.fieldsOf,hu]
         rw[run_equalIn_struct w (d+n) t vi sZ (by rw[Tr];exact hu) gZ,Tr]
         exact mN (fun t a b r a' b' h1 h2 h3 w=>lR n d t a b r a' b' h1 h2 h3 w) AP qL h w
       · simp at h
     · simp at h
   · exact yh h ha hb (d+n) w
theorem tW {op:BinOp} {t:TypeId} (x y:Operand) (xs ys:Array Value) (h:E.P.eqGuardType E.P.depth t=false) (w:World):(eqGuard op t x y (.agg xs) (.agg ys)).run E.P w= .ok () w:=by
 unfold eqGuard
 cases op<;>(try rfl)
 all_goals simp [Sem.run_bind,run_program,h]
theorem qv {op:BinOp} (h1:op≠ .eql) (h2:op≠ .neq) (t:TypeId) (x y:Operand) (a b:Value) (w:World):(eqGuard op t x y a b).run E.P w= .ok () w:=by
 unfold eqGuard;cases op<;>first | rfl | (exact absurd rfl h1) | (exact absurd rfl h2)
def zp (xc yc:Bool):Value→Value→Bool
 | .nilIface,.nilIface=>xc||yc
 | .agg _,.agg _=>false
 | _,_=>true
theorem ko {op:BinOp} (t:TypeId) (x y:Operand) (a b:Value) (h:zp (isConst x) (isConst y) a b=true) (w:World):
 (eqGuard op t x y a b).run E.P w= .ok () w:=by
 unfold eqGuard
 cases op<;>(try rfl)
 all_goals
  cases a<;>cases b<;>first
   | rfl
   | (simp [zp] at h;done)
   | (cases x<;>cases y<;>first | rfl | (simp [zp,isConst] at h;done))
theorem yi {k k':IntKind} {x y:Int} (hy:¬y<0) (t:TypeId):
 (∀w,(binOp .shl t (.int k x) (.int k' y)).run E.P w= .ok (.int k (k.wrap (x*2^(min y.toNat k.bits)))) w)∧
 (∀w,(binOp .shr t (.int k x) (.int k' y)).run E.P w= .ok (.int k (x.fdiv (2^(min y.toNat k.bits)))) w):=by
 constructor<;>intro w<;>simp [binOp,Op.shift,hy]
theorem vp {φ:Ph} {a b:AV} {a' b':Value} (hx:VR φ a a') (hy:VR φ b b') {xo yo:Operand} (h:my (isConst xo) (isConst yo) a b=true):
 zp (isConst xo) (isConst yo) a' b'=true:=by
 cases hx<;>cases hy<;>first | rfl | exact h | (simp [my] at h;done)
def iH:Value→Prop
 | .float _ _ | .complex _ _ _=>False
 | _=>True
theorem VR.iH {φ:Ph} {a:AV} {a':Value} (h:VR φ a a'):Ab.iH a':=by
 cases h with
 | any _ h=>cases a'<;>first | exact trivial | cases h
 | _=>exact trivial
theorem binOp_eql (t:TypeId) {a b:Value} (h1:∀k m k' m',a= .int k m→b= .int k' m'→False) (h2:∀k m,a= .string k→b= .string m→False) (h3:iH a) (h4:iH b):
 binOp .eql t a b=(do pure (.bool (←Op.equal t a b)):Sem Value):=by
 unfold binOp
 split<;>first
  | rfl
  | contradiction
  | (exact (h1 _ _ _ _ rfl rfl).elim)
  | (exact (h2 _ _ rfl rfl).elim)
  | (exact h3.elim)
  | (exact h4.elim)
  | (exfalso;simp_all;done)
theorem binOp_neq (t:TypeId) {a b:Value} (h1:∀k m k' m',a= .int k m→b= .int k' m'→False) (h2:∀k m,a= .string k→b= .string m→False) (h3:iH a) (h4:iH b):
 binOp .neq t a b=(do pure (.bool (!(←Op.equal t a b))):Sem Value):=by
 unfold binOp
 split<;>first
  | rfl
  | contradiction
  | (exact (h1 _ _ _ _ rfl rfl).elim)
  | (exact (h2 _ _ rfl rfl).elim)
  | (exact h3.elim)
  | (exact h4.elim)
  | (exfalso;simp_all;done)
set_option linter.unusedSimpArgs false in
theorem Hf {φ:Ph} {op:BinOp} {t:TypeId} {xo yo:Operand} {a b v:AV} (h:jq E op t (isConst xo) (isConst yo) a b=some v) {a' b':Value} (hx:VR φ a a') (hy:VR φ b b'):
 ∃v',VR φ v v'∧∀w,(do eqGuard op t xo yo a' b';binOp op t a' b':Sem Value).run E.P w= .ok v' w:=by
 unfold jq at h
 split at h
 ·
  cases hx;cases hy
  split at h
  · simp at h
  · rename_i hn
    simp at h;subst h
    refine ⟨_,.int _ _,fun w=>?_⟩
    rw[Sem.run_bind,qv (by decide) (by decide)]
    exact (yi (E:=E) hn t).1 w
 · cases hx;cases hy
   split at h
   · simp at h
   · rename_i hn
     simp at h;subst h
     refine ⟨_,.int _ _,fun w=>?_⟩
     rw[Sem.run_bind,qv (by decide) (by decide)]
     exact (yi (E:=E) hn t).2 w
 · rename_i k x k' y h1 h2
   cases hx;cases hy
   split at h
   · rename_i hk;subst hk
     obtain ⟨v',hv,hr⟩:=CE (φ:=φ) (E:=E) h h1 h2 t
     refine ⟨v',hv,fun w=>?_⟩
     rw[Sem.run_bind,ko _ _ _ _ _ rfl]
     exact hr w
   · simp at h
 · cases hx;cases hy
   obtain ⟨v',hv,hr⟩:=CG (φ:=φ) (E:=E) h t
   refine ⟨v',hv,fun w=>?_⟩
   rw[Sem.run_bind,ko _ _ _ _ _ rfl]
   exact hr w
 ·
  split at h
  · simp at h
  · rename_i hg
    split at h
    · rename_i r hr
      simp at h;subst h
      refine ⟨_,.bool r,fun w=>?_⟩
      obtain ⟨vi,rfl,AP⟩:=hx.hX
      obtain ⟨sZ,rfl,qL⟩:=hy.hX
      rw[Sem.run_bind,tW _ _ _ _ (by simpa using hg)]
      have:=lR 16 9984 t _ _ r _ _ hr hx hy w
      simp only[Result.andThen_ok]
      rw[binOp_eql (a:= .agg vi) (b:= .agg sZ) t (fun _ _ _ _ e=>by simp at e) (fun _ _ e=>by simp at e) trivial trivial,Sem.run_bind]
      rw[show (Op.equal t (.agg vi) (.agg sZ)).run E.P w= .ok r w from this];rfl
    · simp at h
 · split at h
   · simp at h
   · rename_i hg
     split at h
     · rename_i r hr
       simp at h;subst h
       refine ⟨_,.bool (!r),fun w=>?_⟩
       obtain ⟨vi,rfl,AP⟩:=hx.hX
       obtain ⟨sZ,rfl,qL⟩:=hy.hX
       rw[Sem.run_bind,tW _ _ _ _ (by simpa using hg)]
       have:=lR 16 9984 t _ _ r _ _ hr hx hy w
       simp only[Result.andThen_ok]
       rw[binOp_neq (a:= .agg vi) (b:= .agg sZ) t (fun _ _ _ _ e=>by simp at e) (fun _ _ e=>by simp at e) trivial trivial,Sem.run_bind]
       rw[show (Op.equal t (.agg vi) (.agg sZ)).run E.P w= .ok r w from this];rfl
     · simp at h
 · rename_i h1 h2 _
   split at h
   · rename_i hg
     split at h
     · rename_i r hr
       simp at h;subst h
       refine ⟨_,.bool r,fun w=>?_⟩
       rw[Sem.run_bind,ko _ _ _ _ _ (vp hx hy hg)]
       have:=AO hr hx hy w
       simp only[Result.andThen_ok]
       rw[binOp_eql t (fun k m k' m' e e'=>by subst e;subst e';cases hx<;>cases hy<;>first | exact h1 _ _ _ _ rfl rfl | (simp [my] at hg;done)) (fun k m e e'=>by subst e;subst e';cases hx<;>cases hy<;>first | exact h2 _ _ rfl rfl | (simp [my] at hg;done)) (VR.iH hx) (VR.iH hy)]
       rw[Sem.run_bind,this];rfl
     · simp at h
   · simp at h
 · rename_i h1 h2 _
   split at h
   · rename_i hg
     split at h
     · rename_i r hr
       simp at h;subst h
       refine ⟨_,.bool (!r),fun w=>?_⟩
       rw[Sem.run_bind,ko _ _ _ _ _ (vp hx hy hg)]
       have:=AO hr hx hy w
       simp only[Result.andThen_ok]
       rw[binOp_neq t (fun k m k' m' e e'=>by subst e;subst e';cases hx<;>cases hy<;>first | exact h1 _ _ _ _ rfl rfl | (simp [my] at hg;done)) (fun k m e e'=>by subst e;subst e';cases hx<;>cases hy<;>first | exact h2 _ _ rfl rfl | (simp [my] at hg;done)) (VR.iH hx) (VR.iH hy)]
       rw[Sem.run_bind,this];rfl
     · simp at h
   · simp at h
 · simp at h
end Go.Ab
end
section
namespace Go.Ab
variable {E:Env}
theorem Ku {φ:Ph} {op:UnOp} {x v:AV} (h:P2 op x=some v) {x':Value} (hx:VR φ x x'):∃v',VR φ v v'∧∀w,(Op.unary op x').run E.P w= .ok v' w:=by
 unfold P2 at h
 split at h
 · cases hx;simp at h;subst h;exact ⟨_,.int _ _,fun w=>by simp [Op.unary,Op.intArith]⟩
 · cases hx;simp at h;subst h;exact ⟨_,.int _ _,fun w=>by simp [Op.unary,Op.intBits]⟩
 · cases hx;simp at h;subst h;exact ⟨_,.bool _,fun w=>by simp [Op.unary]⟩
 · simp at h
theorem qM {φ:Ph} {x:AV} {y n:Nat} (h:lN x y=some n) {x':Value} (hx:VR φ x x') {y':Nat} (hy:y≤y') (code:BoundsCode):
 (∀w,(Instr.sliceBound x' y' code).run E.P w= .ok n w)∧n≤y:=by
 unfold lN at h
 split at h
 · split at h
   · rename_i hc
     cases hx
     simp at h;subst h
     refine ⟨fun w=>?_,by omega⟩
     simp only[Instr.sliceBound,asIntOf,Sem.run_bind,Sem.run_pure,Result.andThen_ok]
     rw[if_pos (by omega)];rfl
   · simp at h
 · simp at h
def CH (φ:Ph):Option AV→Option Value→Prop
 | none,none=>True
 | some x,some y=>VR φ x y
 | _,_=>False
theorem vq (N6:Bool) (len s7:Nat) (CI zq xE:Option Value):Instr.sliceBounds N6 len s7 CI zq xE=(do
 let m←(match xE with | some v=>Instr.sliceBound v s7 (if N6 then .slice3Acap else .slice3Alen) | none=>pure s7:Sem Nat)
 let h←(match zq,xE with | some v,some _=>Instr.sliceBound v m .slice3B | some v,none=>Instr.sliceBound v m (if N6 then .sliceAcap else .sliceAlen) | none,none=>pure len | none,some _=>stuck "Slice: max without high" :Sem Nat)
 let l←(match CI with | some v=>Instr.sliceBound v h (if xE.isSome then .slice3C else .sliceB) | none=>pure 0:Sem Nat)
 pure (l,h,m)):=by
 unfold Instr.sliceBounds
 cases xE<;>cases zq<;>cases CI<;>rfl
theorem mz {φ:Ph} {len cap:Nat} {lo hi mx:Option AV} {l h m:Nat} (e:iR len cap lo hi mx=some (l,h,m)) {CI zq xE:Option Value}
 (Ka:CH φ lo CI) (Kb:CH φ hi zq) (Kv:CH φ mx xE) {s7:Nat} (hc:cap≤s7) (N6:Bool) (hlen:len≤cap):
 (∀w,(Instr.sliceBounds N6 len s7 CI zq xE).run E.P w= .ok (l,h,if mx.isNone then s7 else m) w)∧l≤h∧h≤m∧m≤cap∧(mx=none→m=cap):=by
 unfold iR at e
 split at e
 · simp at e
 rename_i m0 Ts
 have hm:(∀w,(match xE with | some v=>Instr.sliceBound v s7 (if N6 then .slice3Acap else .slice3Alen) | none=>pure s7:Sem Nat).run E.P w= .ok (if mx.isNone then s7 else m0) w)∧m0≤cap∧(mx=none→m0=cap):=by
  cases mx with
  | none=>
    cases xE with
    | some _=>exact Kv.elim
    | none=>simp at Ts;subst Ts;exact ⟨fun w=>rfl,Nat.le_refl _,fun _=>rfl⟩
  | some v=>
    cases xE with
    | none=>exact Kv.elim
    | some v'=>
      have:=fun code=>qM (E:=E) Ts (show VR φ v v' from Kv) hc code
      exact ⟨(this _).1,(this .index).2,fun e=>by simp at e⟩
 split at e
 · simp at e
 rename_i h0 Tt
 have Uk:m0≤(if mx.isNone then s7 else m0):=by split<;>omega
 have hh:(∀w,(match zq,xE with | some v,some _=>Instr.sliceBound v (if mx.isNone then s7 else m0) .slice3B | some v,none=>Instr.sliceBound v (if mx.isNone then s7 else m0) (if N6 then .sliceAcap else .sliceAlen) | none,none=>pure len | none,some _=>stuck "Slice: max without high" :Sem Nat).run E.P w= .ok h0 w)∧h0≤m0:=by
  cases hi with
  | none=>
    cases zq with
    | some _=>exact Kb.elim
    | none=>
      cases mx with
      | some _=>simp at Tt
      | none=>
        cases xE with
        | some _=>exact Kv.elim
        | none=>simp at Tt;subst Tt;exact ⟨fun w=>rfl,by have:=hm.2.2 rfl;omega⟩
  | some v=>
    cases zq with
    | none=>exact Kb.elim
    | some v'=>
      have:=fun code=>qM (E:=E) Tt (show VR φ v v' from Kb) Uk code
      cases xE with
      | none=>exact ⟨(this _).1,(this .index).2⟩
      | some _=>exact ⟨(this _).1,(this .index).2⟩
 split at e
 · simp at e
 rename_i l0 N7
 simp at e
 obtain ⟨rfl,rfl,rfl⟩:=e
 have hl:(∀w,(match CI with | some v=>Instr.sliceBound v h0 (if xE.isSome then .slice3C else .sliceB) | none=>pure 0:Sem Nat).run E.P w= .ok l0 w)∧l0≤h0:=by
  cases lo with
  | none=>
    cases CI with
    | some _=>exact Ka.elim
    | none=>simp at N7;subst N7;exact ⟨fun w=>rfl,by omega⟩
  | some v=>
    cases CI with
    | none=>exact Ka.elim
    | some v'=>
      have:=fun code=>qM (E:=E) N7 (show VR φ v v' from Ka) (Nat.le_refl _) code
      exact ⟨(this _).1,(this .index).2⟩
 refine ⟨fun w=>?_,hl.2,hh.2,hm.2.1,hm.2.2⟩
 rw[vq,Sem.run_bind,hm.1 w,Result.andThen_ok,Sem.run_bind,hh.1 w,Result.andThen_ok,Sem.run_bind,hl.1 w]
 rfl
theorem pS (b o n:Nat):(⟨b,o,none⟩:Addr).add n=⟨b,o+n,none⟩:=Addr.add_mid b o n
theorem CJ {φ:Ph} {t:TypeId} {x v:AV} {lo hi mx:Option AV} (e:eY E t x lo hi mx=some v) {x':Value} {CI zq xE:Option Value}
 (hx:VR φ x x') (Ka:CH φ lo CI) (Kb:CH φ hi zq) (Kv:CH φ mx xE):∃v',VR φ v v'∧∀w,(Instr.sliceAt t x' CI zq xE).run E.P w= .ok v' w:=by
 unfold eY at e
 split at e
 ·
  rename_i n elem i o hu
  cases hx with
  | @ptr _ l _ hφ=>
  split at e
  · rename_i l0 h0 m0 size hb hs
    simp at e;subst e
    obtain ⟨hr,h1,h2,h3,h4⟩:=mz (E:=E) hb Ka Kb Kv (Nat.le_refl n) false (Nat.le_refl n)
    have hm:(if mx.isNone then n else m0)=m0:=by
     cases mx with
     | none=>simp [h4 rfl]
     | some _=>rfl
    rw[hm] at hr
    refine ⟨_,.slice (if m0=l0 then o else o+l0*size) (h0 - l0) (m0 - l0) false hφ,fun w=>?_⟩
    simp only[Instr.sliceAt,Sem.run_bind,run_underlying hu,Result.andThen_ok,Instr.sureAddr,Sem.run_pure,hr w,dk hs,fp,Bool.false_eq_true,if_false]
    by_cases P7:m0=l0
    · simp [P7]
    · simp only[P7,if_false,pS];rw[Nat.add_assoc]
  · simp at e
 ·
  rename_i s hu
  split at e
  · rename_i l0 h0 m0 hb
    simp at e;subst e
    generalize hs:s=s0 at hx hb
    cases hx with
    | str s'=>
    subst hs
    have e1:s'.size=s'.data.toList.length:=by cases s';rfl
    cases xE with
    | some _=>exact Kv.elim
    | none=>
    obtain ⟨hr,h1,h2,h3,h4⟩:=mz (E:=E) (mx:=none) (xE:=none) hb Ka Kb trivial (Nat.le_refl _) false (Nat.le_refl _)
    refine ⟨.string (s'.extract l0 h0),?_,fun w=>?_⟩
    · have:=VR.str (φ:=φ) (s'.extract l0 h0)
      have e2:(s'.extract l0 h0).data.toList=(s'.data.toList.drop l0).take (h0 - l0):=by
       exact Lib.extract_data s' l0 h0
      rw[e2] at this;exact this
    · have Hg:=hr w
      rw[←e1] at Hg
      simp only[Instr.sliceAt,Instr.slice,Sem.run_bind,run_underlying hu,Result.andThen_ok,Option.isSome_none,Bool.false_eq_true,if_false,Hg,Sem.run_pure]
  · simp at e
 ·
  rename_i elem hu
  cases hx
  split at e
  · rename_i r size hb hs
    simp at e;subst e
    obtain ⟨l0,h0,m0⟩:=r
    obtain ⟨hr,h1,h2,h3,h4⟩:=mz (E:=E) hb Ka Kb Kv (Nat.le_refl _) true (Nat.le_refl _)
    have hm:(if mx.isNone then 0 else m0)=0:=by split<;>omega
    rw[hm] at hr
    refine ⟨_,.aF,fun w=>?_⟩
    obtain rfl:l0=0:=by omega
    obtain rfl:h0=0:=by omega
    simp only[Instr.sliceAt,Instr.slice,Sem.run_bind,run_underlying hu,Result.andThen_ok,hr w,dk hs,if_true,Sem.run_pure]
  · simp at e
 · rename_i elem i o len cap op hu
   cases hx with
   | @slice _ l _ _ _ _ hφ=>
   split at e
   · rename_i QK
     split at e
     · rename_i l0 h0 m0 size hb hs
       have N8:cap≤fp op cap l.gI:=by unfold fp;split<;>omega
       obtain ⟨hr,h1,h2,h3,h4⟩:=mz (E:=E) hb Ka Kb Kv N8 true QK
       have run:∀w,(Instr.sliceAt t (.slice (some ⟨l.eV,l.off+o,none⟩) len (fp op cap l.gI)) CI zq xE).run E.P w=
        .ok (.slice (if (if mx.isNone then fp op cap l.gI else m0)=l0 then some ⟨l.eV,l.off+o,none⟩ else some ⟨l.eV,l.off+o+l0*size,none⟩) (h0 - l0) ((if mx.isNone then fp op cap l.gI else m0) - l0)) w:=fun w=>by
        simp only[Instr.sliceAt,Instr.slice,Sem.run_bind,run_underlying hu,Result.andThen_ok,hr w,dk hs,Sem.run_pure,Option.map_some,pS]
       split at e
       · rename_i P7
         split at e
         · rename_i mZ
           have P9:mx.isNone=true:=by simp at mZ;simpa using mZ.2
           simp only[Option.some.injEq] at e;subst e
           have e0:h0 - l0=0:=by omega
           rw[e0] at run
           by_cases hq:(if mx.isNone then fp op cap l.gI else m0)=l0
           · exact ⟨_,.dG _ _,fun w=>by rw[run w,if_pos hq]⟩
           · exact ⟨_,.dG _ _,fun w=>by rw[run w,if_neg hq]⟩
         · rename_i mZ
           simp at e;subst e
           have Wu:(if mx.isNone then fp op cap l.gI else m0)=m0:=by
            cases P9:mx with
            | none=>subst P9;simp at mZ;subst mZ;simp [fp,h4 rfl]
            | some _=>rfl
           rw[Wu,if_pos P7] at run
           exact ⟨_,.slice o (h0 - l0) (m0 - l0) false hφ,run⟩
       · rename_i P7
         simp only[Option.some.injEq] at e;subst e
         have dt:¬(if mx.isNone then fp op cap l.gI else m0)=l0:=by
          split
          · rename_i P9;have:=h4 (by simpa using P9);omega
          · exact P7
         rw[if_neg dt,Nat.add_assoc] at run
         refine ⟨_,?_,run⟩
         have:=VR.slice (φ:=φ) (o+l0*size) (h0 - l0) (m0 - l0) (op&&mx.isNone) hφ
         have e2:fp (op&&mx.isNone) (m0 - l0) l.gI=(if mx.isNone then fp op cap l.gI else m0) - l0:=by
          cases P9:mx with
          | none=>
            have h5:=h4 P9
            cases op with
            | true=>simp [fp];omega
            | false=>simp [fp];omega
          | some _=>simp [fp]
         rw[e2] at this;exact this
     · simp at e
   · simp at e
 · simp at e
end Go.Ab
end
section
namespace Go.Ab
variable {E:Env}
theorem m9:∀(l:List Value) (k off:Nat) (C:Array Value),(l.zipIdx k).foldl (fun cs (x:Value×Nat)=>cs.setIfInBounds (off+x.2) x.1) C=iy C (off+k) l
 | [],_,_,_=>rfl
 | v::vs,k,off,C=>by
   rw[List.zipIdx_cons,List.foldl_cons,m9 vs (k+1) off,iy,Nat.add_assoc]
theorem LR.setFrom {φ:Ph}:∀{vs:List AV} {nM:List Value} (_:LR φ vs nM) {cs:List AV} {C:Array Value} (_:LR φ cs C.toList) (o:Nat),LR φ (Ab.setFrom cs o vs) (iy C o nM).toList
 | [],nM,hv,cs,C,hc,o=>by rw[hv.gU];exact hc
 | v::vs,nM,hv,cs,C,hc,o=>by
   obtain ⟨y,ys,rfl,hy,qL⟩:=hv.cj
   rw[Ab.setFrom,iy]
   refine LR.setFrom qL ?_ (o+1)
   rw[Array.toList_setIfInBounds]
   exact hc.set hy o
def PR (φ:Ph) (ps:List (Nat×AV)) (qs:List (Nat×Value)):Prop:=ps.length=qs.length∧∀(i:Nat) (x:Nat×AV) (y:Nat×Value),ps[i]? =some x→qs[i]? =some y→x.1=y.1∧VR φ x.2 y.2
theorem PR.cj {φ:Ph} {x:Nat×AV} {xs:List (Nat×AV)} {ys:List (Nat×Value)} (h:PR φ (x::xs) ys):∃y sZ,ys=y::sZ∧(x.1=y.1∧VR φ x.2 y.2)∧PR φ xs sZ:=by
 obtain ⟨hl,hv⟩:=h
 cases ys with
 | nil=>simp at hl
 | cons y ys=>exact ⟨y,ys,rfl,hv 0 x y (by simp) (by simp),by simpa using hl,fun i a b ha hb=>hv (i+1) a b (by simpa using ha) (by simpa using hb)⟩
theorem s9 {φ:Ph} (hg:GL E φ) {ts:List AV} {a:Act} (ht:LR φ ts a.tmps.toList):∀{l:List (Nat×Operand)} {r:List (Nat×AV)} (_:ir E ts l=some r),PR φ r (l.map fun (i,x)=>(i,a.eval x))
 | [],r,h=>by simp [ir] at h;subst h;exact ⟨rfl,fun i x y hx _=>by simp at hx⟩
 | (i,o)::rest,r,h=>by
   simp only[ir] at h
   cases hv:dr E ts o with
   | none=>simp [hv] at h
   | some v=>
     simp only[hv] at h
     cases hr:ir E ts rest with
     | none=>simp [hr] at h
     | some l=>
       simp only[hr,Option.some.injEq] at h;subst h
       obtain ⟨h1,h2⟩:=s9 hg ht hr
       refine ⟨by simpa using h1,fun j x y hx hy=>?_⟩
       cases j with
       | zero=>simp at hx hy;subst hx;subst hy;exact ⟨rfl,kR hg ht hv⟩
       | succ j=>simp at hx;exact h2 j x y hx (by simpa using hy)
theorem pT {φ:Ph} {place:Nat→Option (Nat×Nat)}:∀{ps:List (Nat×AV)} {qs:List (Nat×Value)} (_:PR φ ps qs) {cs gG:List AV} {C:Array Value} (_:LR φ cs C.toList) (_:ou place cs ps=some gG),
 ∃C',Instr.fill place C qs=some C'∧LR φ gG C'.toList
 | [],qs,hp,cs,gG,C,hc,h=>by
   cases qs with
   | nil=>simp [ou] at h;subst h;exact ⟨C,rfl,hc⟩
   | cons q qs=>simp [PR] at hp
 | (i,v)::rest,qs,hp,cs,gG,C,hc,h=>by
   obtain ⟨⟨j,v'⟩,ZM,rfl,⟨he,hv⟩,lS⟩:=hp.cj
   simp only at he hv;subst he
   simp only[ou] at h
   simp only[Instr.fill]
   cases E':place i with
   | none=>simp [E'] at h
   | some x=>
     obtain ⟨off,size⟩:=x
     simp only[E'] at h ⊢
     split at h
     · rename_i Hh
       have Hj:=hv.cells
       have hl:v'.cells.size=size:=by have:=Hj.1;simp at this;omega
       have GJ:C.size=cs.length:=by have:=hc.1;simp at this;omega
       have zn:(decide (v'.cells.size≠size)||decide (off+v'.cells.size>C.size))=false:=by
        simp only[Bool.or_eq_false_iff,decide_eq_false_iff_not];omega
       simp only[zn,Bool.false_eq_true,if_false]
       have QL:(v'.cells.zipIdx.foldl (fun cs (x:Value×Nat)=>cs.setIfInBounds (off+x.2) x.1) C)=iy C off v'.cells.toList:=by
        rw[←Array.foldl_toList]
        have:=m9 v'.cells.toList 0 off C
        simpa using this
       rw[QL]
       exact pT lS (LR.setFrom Hj hc off) h
     · simp at h
theorem CK {φ:Ph} {t:TypeId} {ps:List (Nat×AV)} {v:AV} (h:sW E t ps=some v) {qs:Array (Nat×Value)} (hp:PR φ ps qs.toList):
 ∃v',VR φ v v'∧∀w,(Instr.build t qs).run E.P w= .ok v' w:=by
 unfold sW at h
 split at h
 · simp at h
 rename_i z hz
 obtain ⟨z',uK,iI⟩:=gM hz
 split at h
 · rename_i fs hu
   split at h
   · simp at h
   rename_i pl E'
   split at h
   · rename_i cs hf
     simp at h;subst h
     have N9:∀w,(fs.mapM fun f=>do pure (f.offset,←sizeOf f.type):Sem (Array (Nat×Nat))).run E.P w= .ok pl.toArray w:=by
      intro w
      have key:∀(l:List Field) (r:List (Nat×Nat)),dp (fun f=>match bY E f.type with | some n=>some (f.offset,n) | none=>none) l=some r→
       (l.mapM fun f=>do pure (f.offset,←sizeOf f.type):Sem (List (Nat×Nat))).run E.P w= .ok r w:=by
       intro l
       induction l with
       | nil=>intro r hr;simp [dp] at hr;subst hr;rfl
       | cons f l ih=>
         intro r hr
         simp only[dp] at hr
         cases hs:bY E f.type with
         | none=>simp [hs] at hr
         | some n=>
           simp only[hs] at hr
           cases hm:dp (fun f=>match bY E f.type with | some n=>some (f.offset,n) | none=>none) l with
           | none=>simp [hm] at hr
           | some ys=>
             simp only[hm,Option.some.injEq] at hr;subst hr
             simp only[List.mapM_cons,Sem.run_bind,dk hs,Result.andThen_ok,Sem.run_pure,ih ys hm]
      have:=key fs.toList pl E'
      have hh:(fs.mapM fun f=>do pure (f.offset,←sizeOf f.type):Sem (Array (Nat×Nat)))=(do pure (←(fs.toList.mapM fun f=>do pure (f.offset,←sizeOf f.type):Sem (List (Nat×Nat)))).toArray):=by
       rw[Array.mapM_eq_mapM_toList];rfl
      rw[hh,Sem.run_bind,this];rfl
     obtain ⟨C',tX,vr⟩:=pT (place:=(pl[·]?)) hp (cs:=z.cells) (C:=z'.cells) (uK φ).cells hf
     refine ⟨.agg C',by have:=VR.E9 vr;simpa using this,fun w=>?_⟩
     simp only[Instr.build,Sem.run_bind,iI,Result.andThen_ok,run_underlying hu,N9 w]
     simp [tX]
   · simp at h
 · rename_i n elem hu
   split at h
   · simp at h
   rename_i n hn
   split at h
   · rename_i cs hf
     simp at h;subst h
     obtain ⟨C',tX,vr⟩:=pT (place:=fun i=>some (i*n,n)) hp (cs:=z.cells) (C:=z'.cells) (uK φ).cells hf
     refine ⟨.agg C',by have:=VR.E9 vr;simpa using this,fun w=>?_⟩
     simp [Instr.build,Sem.run_bind,iI,run_underlying hu,dk hn,tX]
   · simp at h
 · simp at h
theorem AQ {φ:Ph}:∀{l:List AV} {x v:AV} (_:Cz x l=some v) {x':Value} (_:VR φ x x') {l':List Value} (_:LR φ l l'),∃v',VR φ v v'∧∀w,(l'.foldlM Builtin.max2 x').run E.P w= .ok v' w
 | [],x,v,h,x',hx,l',hl=>by
   rw[hl.gU]
   cases x<;>simp [Cz] at h
   subst h;exact ⟨x',hx,fun w=>rfl⟩
 | y::ys,x,v,h,x',hx,l',hl=>by
   obtain ⟨y',sZ,rfl,hy,qL⟩:=hl.cj
   cases x<;>(try (simp [Cz] at h;done))
   cases y<;>(try (simp [Cz] at h;done))
   cases hx;cases hy
   simp only[Cz] at h
   obtain ⟨v',hv,hr⟩:=AQ h (.int _ _) qL
   refine ⟨v',hv,fun w=>?_⟩
   simp only[List.foldlM_cons,Builtin.max2,Sem.run_bind,Sem.run_pure,Result.andThen_ok,hr w]
theorem AR {φ:Ph}:∀{l:List AV} {x v:AV} (_:CA x l=some v) {x':Value} (_:VR φ x x') {l':List Value} (_:LR φ l l'),∃v',VR φ v v'∧∀w,(l'.foldlM Builtin.min2 x').run E.P w= .ok v' w
 | [],x,v,h,x',hx,l',hl=>by
   rw[hl.gU]
   cases x<;>simp [CA] at h
   subst h;exact ⟨x',hx,fun w=>rfl⟩
 | y::ys,x,v,h,x',hx,l',hl=>by
   obtain ⟨y',sZ,rfl,hy,qL⟩:=hl.cj
   cases x<;>(try (simp [CA] at h;done))
   cases y<;>(try (simp [CA] at h;done))
   cases hx;cases hy
   simp only[CA] at h
   obtain ⟨v',hv,hr⟩:=AR h (.int _ _) qL
   refine ⟨v',hv,fun w=>?_⟩
   simp only[List.foldlM_cons,Builtin.min2,Sem.run_bind,Sem.run_pure,Result.andThen_ok,hr w]
theorem map_toArray (f:Operand→Value) (l:Array Operand):l.map f=(l.toList.map f).toArray:=by apply Array.ext';simp
def Mx (E:Env):Prop:=∀f e,E.km f=some e→∀vs r,e vs=some r→∀φ (nM:List Value),LR φ vs nM→
 ∃r',VR φ r r'∧∀w,(callFunc f nM.toArray).run E.P w= .ok (.value r') w
theorem dQ {s:Sem Value} {v:Value} {P:Program} {w w':World} (h:s.run P w= .ok v w'):(do pure (.value (←s)):Sem Next).run P w= .ok (.value v) w':=by
 rw[Sem.run_bind,h];rfl
theorem zr {φ:Ph} (hg:GL E φ) {ts:List AV} {a:Act} (ht:LR φ ts a.tmps.toList) {o:Option Operand} {r:Option AV} (h:ky E ts o=some r):CH φ r (o.map a.eval):=by
 cases o with
 | none=>simp [ky] at h;subst h;trivial
 | some o=>
   simp only[ky] at h
   split at h
   · rename_i v hv;simp at h;subst h;exact kR hg ht hv
   · simp at h
theorem o8 {P:Program} {t:TypeId} {d:TypeDesc} (hu:P.underlying t=some d) (hd:∀m,d= .interface m→False) (v:Value) (xT:TypeId) (ok:Bool) (w:World):
 (Instr.typeAssert (.iface t v) xT t ok).run P w= .ok (if ok then .tuple #[v,.bool true] else v) w:=by
 rw[Instr.typeAssert,Sem.run_bind,run_underlying hu]
 cases d<;>first | (exact (hd _ rfl).elim) | (simp;done)
theorem uL {P:Program} {t u:TypeId} {d:TypeDesc} (hu:P.underlying t=some d) (hd:∀m,d= .interface m→False) (v:Value) (xT:TypeId) (dt:u≠t) {z:Value} (w:World) (hz:(zeroValue t).run P w= .ok z w):
 (Instr.typeAssert (.iface u v) xT t true).run P w= .ok (.tuple #[z,.bool false]) w:=by
 rw[Instr.typeAssert,Sem.run_bind,run_underlying hu]
 cases d<;>first | (exact (hd _ rfl).elim) | (simp [dt,hz];done)
theorem vt {P:Program} {t:TypeId} {d:TypeDesc} (hu:P.underlying t=some d) (hd:∀m,d= .interface m→False) (xT:TypeId) {z:Value} (w:World) (hz:(zeroValue t).run P w= .ok z w):
 (Instr.typeAssert .nilIface xT t true).run P w= .ok (.tuple #[z,.bool false]) w:=by
 rw[Instr.typeAssert,Sem.run_bind,run_underlying hu]
 cases d<;>first | (exact (hd _ rfl).elim) | (simp [hz];done)
set_option maxHeartbeats 1000000 in
theorem tY (QM:Mx E) {φ:Ph} (hg:GL E φ) {ts:List AV} {a:Act} (ht:LR φ ts a.tmps.toList) {o:Oper} {v:AV} (h:bm E ts o.op=some v):
 ∃v',VR φ v v'∧∀w,(execOp a.eval o).run E.P w= .ok (.value v') w:=by
 have ev:∀{x:Operand} {v:AV},dr E ts x=some v→VR φ v (a.eval x):=fun h=>kR hg ht h
 unfold execOp
 generalize o.op=op at h ⊢
 unfold bm at h
 split at h
 · exact ⟨_,ev h,fun w=>rfl⟩
 · exact ⟨_,ev h,fun w=>rfl⟩
 ·
  split at h
  · rename_i hc
    have:=ev hc
    generalize je:a.eval _=cv at this
    cases this
    exact ⟨_,ev h,fun w=>by simp [je,asBool]⟩
  · rename_i hc
    have:=ev hc
    generalize je:a.eval _=cv at this
    cases this
    exact ⟨_,ev h,fun w=>by simp [je,asBool]⟩
  · simp at h
 ·
  rename_i t parts
  split at h
  · rename_i ps Ul
    have hp:=s9 hg ht Ul
    obtain ⟨v',hv,hr⟩:=CK (φ:=φ) h (qs:=parts.map fun (i,x)=>(i,a.eval x)) (by simpa using hp)
    exact ⟨v',hv,fun w=>dQ (hr w)⟩
  · simp at h
 ·
  split at h<;>(try (simp at h;done))
  all_goals
   rename_i hx
   have:=ev hx
   generalize je:a.eval _=cv at this
   cases this
   simp only[Option.some.injEq] at h;subst h
   first
    | exact ⟨_,.ptr _ ‹_›,fun w=>by simp [je]⟩
    | exact ⟨_,.map ‹_›,fun w=>by simp [je]⟩
    | exact ⟨_,.slice _ _ _ _ ‹_›,fun w=>by simp [je]⟩
    | exact ⟨_,.func _ _ _ _ _ ‹_› ‹_› ‹_› ‹_›,fun w=>by simp [je]⟩
 ·
  split at h
  · rename_i hx hy
    obtain ⟨v',hv,hr⟩:=Hf h (ev hx) (ev hy)
    exact ⟨v',hv,fun w=>dQ (hr w)⟩
  · simp at h
 ·
  split at h
  · rename_i hx
    obtain ⟨v',hv,hr⟩:=Ku (E:=E) h (ev hx)
    exact ⟨v',hv,fun w=>dQ (hr w)⟩
  · simp at h
 ·
  split at h
  · rename_i hs hd hx
    have:=ev hx
    generalize je:a.eval _=cv at this
    cases this
    simp at h;subst h
    refine ⟨_,.int _ _,fun w=>dQ ?_⟩
    simp [je,convert,run_underlying hs,run_underlying hd,Conv.intToInt]
  · rename_i d s hs hd hx
    have:=ev hx
    generalize je:a.eval _=cv at this
    simp at h;subst h
    generalize CL:s=s0 at this
    cases this
    subst CL
    refine ⟨_,.str _,fun w=>dQ ?_⟩
    simp [je,convert,run_underlying hs,run_underlying hd]
  · rename_i d k n hs hd hx
    have:=ev hx
    generalize je:a.eval _=cv at this
    cases this
    unfold DU at h
    split at h
    · rename_i h0
      simp at h;subst h
      have he:Utf8.encode n=⟨#[UInt8.ofNat n.toNat]⟩:=by
       have hv:Utf8.valid n=true:=by simp [Utf8.valid];omega
       have h1:n.toNat<0x80:=by omega
       simp [Utf8.encode,hv,h1]
      refine ⟨.string ⟨#[UInt8.ofNat n.toNat]⟩,.str ⟨#[UInt8.ofNat n.toNat]⟩,fun w=>dQ ?_⟩
      rw[←he]
      cases d<;>simp [je,convert,run_underlying hs,run_underlying hd,Conv.intToString]
    · simp at h
  · simp at h
 ·
  split at h
  · simp at h
  · rename_i d v0 hn hu hx
    simp at h;subst h
    refine ⟨_,.iface _ _ _ (ev hx),fun w=>dQ ?_⟩
    rw[Instr.makeInterface,Sem.run_bind,run_underlying hu]
    cases d<;>first | (exact (hn _ rfl).elim) | rfl
  · simp at h
 ·
  rename_i f first captured
  split at h
  · rename_i ha hb
    simp at h;subst h
    have h1:=fO hg ht ha
    have h2:=fO hg ht hb
    refine ⟨.func (.func f) (first.map a.eval) (captured.map a.eval),?_,fun w=>dQ rfl⟩
    rw[map_toArray,map_toArray]
    exact VR.G7 f h1 h2
  · simp at h
 ·
  split at h
  · rename_i hx hl hh hm
    obtain ⟨v',hv,hr⟩:=CJ h (ev hx) (zr hg ht hl) (zr hg ht hh) (zr hg ht hm)
    exact ⟨v',hv,fun w=>dQ (hr w)⟩
  · simp at h
 ·
  split at h
  · rename_i fd i o0 hf hx
    split at h
    · rename_i n hn
      split at h
      · simp at h
      · rename_i Kc
        simp at h;subst h
        have:=ev hx
        generalize je:a.eval _=cv at this
        cases this with
        | @ptr _ l _ hφ=>
        refine ⟨_,.ptr _ hφ,fun w=>dQ ?_⟩
        unfold kz at hf
        split at hf
        · rename_i fs hu
          simp [je,Instr.fieldAt,run_underlying hu,hf,Instr.sureAddr,fieldPlace,dk hn,Kc,pS,Nat.add_assoc]
        · simp at hf
    · simp at h
  · simp at h
 ·
  split at h
  · rename_i fd cs hf hx
    have:=ev hx
    generalize je:a.eval _=cv at this
    obtain ⟨gG,rfl,vr⟩:=this.hX
    obtain ⟨v',hv,hr⟩:=m8 vr h
    refine ⟨v',hv,fun w=>dQ ?_⟩
    unfold kz at hf
    split at hf
    · rename_i fs hu
      have:=hr w
      simp [je,Instr.field,run_underlying hu,hf,asAgg] at this ⊢
      exact this
    · simp at hf
  · simp at h
 ·
  split at h
  · rename_i len elem i o0 k n hu hx hi
    split at h
    · rename_i size hs
      split at h
      · rename_i hb
        simp at h;subst h
        have h1:=ev hx
        have h2:=ev hi
        generalize je:a.eval _=cv at h1
        generalize N_:a.eval _=cw at h2
        cases h1 with
        | @ptr _ l _ hφ=>
        cases h2
        refine ⟨_,.ptr _ hφ,fun w=>dQ ?_⟩
        simp [je,N_,Instr.indexAt,asIntOf,run_underlying hu,Instr.sureAddr,hb,dk hs,pS,Nat.add_assoc]
      · simp at h
    · simp at h
  · rename_i elem i o0 len cap op k n hu hx hi
    split at h
    · rename_i size hs
      split at h
      · rename_i hb
        simp at h;subst h
        have h1:=ev hx
        have h2:=ev hi
        generalize je:a.eval _=cv at h1
        generalize N_:a.eval _=cw at h2
        cases h1 with
        | @slice _ l _ _ _ _ hφ=>
        cases h2
        refine ⟨_,.ptr _ hφ,fun w=>dQ ?_⟩
        simp [je,N_,Instr.indexAt,asIntOf,run_underlying hu,hb,dk hs,pS,Nat.add_assoc]
      · simp at h
    · simp at h
  · simp at h
 ·
  split at h
  · rename_i len elem cs k n hu hx hi
    split at h
    · rename_i size hs
      split at h
      · rename_i hb
        have h1:=ev hx
        have h2:=ev hi
        generalize je:a.eval _=cv at h1
        generalize N_:a.eval _=cw at h2
        obtain ⟨gG,rfl,vr⟩:=h1.hX
        cases h2
        obtain ⟨v',hv,hr⟩:=m8 vr h
        refine ⟨v',hv,fun w=>dQ ?_⟩
        have:=hr w
        simp [je,N_,Instr.index,asIntOf,run_underlying hu,hb,dk hs] at this ⊢
        exact this
      · simp at h
    · simp at h
  · rename_i s k n hu hx hi
    split at h
    · rename_i hn
      split at h
      · rename_i b hb
        simp at h;subst h
        have h1:=ev hx
        have h2:=ev hi
        generalize je:a.eval _=cv at h1
        generalize N_:a.eval _=cw at h2
        generalize CL:s=s0 at h1
        cases h1 with
        | str s'=>
        subst CL
        cases h2
        refine ⟨_,.int _ _,fun w=>dQ ?_⟩
        have My:s'[n.toNat]? =some b:=by
         have:s'.data[n.toNat]? =some b:=by simpa using hb
         rw[←this];rfl
        simp [je,N_,Instr.index,asIntOf,run_underlying hu,hn,My]
      · simp at h
    · simp at h
  · simp at h
 ·
  split at h
  · rename_i vs hx
    have h1:=ev hx
    generalize je:a.eval _=cv at h1
    obtain ⟨nM,rfl,vr⟩:=h1.yf
    obtain ⟨y,hy,hv⟩:=vr.get h
    refine ⟨y,hv,fun w=>dQ ?_⟩
    simp at hy
    simp [je,Instr.extract,hy]
  · simp at h
 ·
  split at h
  · simp at h
  · rename_i d t v0 hn hu hx
    have h1:=ev hx
    generalize je:a.eval _=cv at h1
    cases h1 with
    | iface _ _ v1 Tu=>
    split at h
    · rename_i Um
      subst Um
      simp at h;subst h
      split
      · rename_i lT
        refine ⟨.tuple #[v1,.bool true],VR.tuple' (gG:=[v1,.bool true]) (.cons Tu (.cons (.bool true) (.nil φ))),fun w=>dQ ?_⟩
        rw[je,o8 hu hn,lT];rfl
      · rename_i lT
        refine ⟨v1,Tu,fun w=>dQ ?_⟩
        rw[je,o8 hu hn];simp [lT]
    · rename_i Um
      split at h
      · rename_i lT
        split at h
        · rename_i z hz
          simp at h;subst h
          obtain ⟨z',uK,iI⟩:=gM hz
          refine ⟨.tuple #[z',.bool false],VR.tuple' (gG:=[z',.bool false]) (.cons (uK φ) (.cons (.bool false) (.nil φ))),fun w=>dQ ?_⟩
          rw[je,lT];exact uL hu hn _ _ Um w (iI w)
        · simp at h
      · simp at h
  · rename_i d hn hu hx
    have h1:=ev hx
    generalize je:a.eval _=cv at h1
    cases h1
    split at h
    · rename_i lT
      split at h
      · rename_i z hz
        simp at h;subst h
        obtain ⟨z',uK,iI⟩:=gM hz
        refine ⟨.tuple #[z',.bool false],VR.tuple' (gG:=[z',.bool false]) (.cons (uK φ) (.cons (.bool false) (.nil φ))),fun w=>dQ ?_⟩
        rw[je,lT];exact vt hu hn _ w (iI w)
      · simp at h
    · simp at h
  · simp at h
 ·
  split at h
  · rename_i t v0 GK CM
    have hl:=fO hg ht CM
    obtain ⟨y,ys,qL,hy,zt⟩:=hl.cj
    rw[zt.gU] at qL
    have vu:∀(args:Array Operand),args.toList.map a.eval=[y]→args.map a.eval= #[y]:=fun args e=>by rw[map_toArray,e]
    have h0:=vu _ qL
    split at h<;>(try (simp at h;done))
    all_goals
     rename_i hu
     simp only[Option.some.injEq] at h;subst h
    · generalize CL:AV.str _=s0 at hy
      cases hy<;>cases CL
      rename_i s'
      refine ⟨_,.int _ _,fun w=>?_⟩
      simp [resolve,invoke,builtin,h0,Builtin.len_,GK,run_underlying hu,goInt]
      try rfl
    · refine ⟨_,.int _ _,fun w=>?_⟩
      simp [resolve,invoke,builtin,h0,Builtin.len_,GK,run_underlying hu,goInt]
    · cases hy
      refine ⟨_,.int _ _,fun w=>?_⟩
      simp [resolve,invoke,builtin,h0,Builtin.len_,GK,run_underlying hu,goInt]
    · cases hy
      refine ⟨_,.int _ _,fun w=>?_⟩
      simp [resolve,invoke,builtin,h0,Builtin.len_,GK,run_underlying hu,goInt]
    · cases hy
      refine ⟨_,.int _ _,fun w=>?_⟩
      simp [resolve,invoke,builtin,h0,Builtin.len_,GK,run_underlying hu,goInt]
    · cases hy
      refine ⟨_,.int _ _,fun w=>?_⟩
      simp [resolve,invoke,builtin,h0,Builtin.len_,GK,run_underlying hu,goInt]
  · simp at h
 ·
  split at h
  · rename_i t v0 GK CM
    have hl:=fO hg ht CM
    obtain ⟨y,ys,qL,hy,zt⟩:=hl.cj
    rw[zt.gU] at qL
    have vu:∀(args:Array Operand),args.toList.map a.eval=[y]→args.map a.eval= #[y]:=fun args e=>by rw[map_toArray,e]
    have h0:=vu _ qL
    split at h<;>(try (simp at h;done))
    all_goals
     rename_i hu
     simp only[Option.some.injEq] at h;subst h
    · refine ⟨_,.int _ _,fun w=>?_⟩
      simp [resolve,invoke,builtin,h0,Builtin.cap_,GK,run_underlying hu,goInt]
    · cases hy
      refine ⟨_,.int _ _,fun w=>?_⟩
      simp [resolve,invoke,builtin,h0,Builtin.cap_,GK,run_underlying hu,goInt]
    · cases hy
      refine ⟨_,.int _ _,fun w=>?_⟩
      simp [resolve,invoke,builtin,h0,Builtin.cap_,GK,run_underlying hu,goInt,fp]
  · simp at h
 ·
  rename_i args _
  split at h
  · rename_i x rest CM
    have hl:=fO hg ht CM
    obtain ⟨y,ys,qL,hy,lS⟩:=hl.cj
    obtain ⟨v',hv,hr⟩:=AQ (E:=E) h hy lS
    refine ⟨v',hv,fun w=>?_⟩
    have h0:args.map a.eval=(y::ys).toArray:=by rw[map_toArray,qL]
    have:=hr w
    simp [resolve,invoke,builtin,h0,Builtin.max_,this]
  · simp at h
 ·
  rename_i args _
  split at h
  · rename_i x rest CM
    have hl:=fO hg ht CM
    obtain ⟨y,ys,qL,hy,lS⟩:=hl.cj
    obtain ⟨v',hv,hr⟩:=AR (E:=E) h hy lS
    refine ⟨v',hv,fun w=>?_⟩
    have h0:args.map a.eval=(y::ys).toArray:=by rw[map_toArray,qL]
    have:=hr w
    simp [resolve,invoke,builtin,h0,Builtin.min_,this]
  · simp at h
 ·
  rename_i f args _
  split at h
  · rename_i e vs he CM
    have hl:=fO hg ht CM
    obtain ⟨r',hr,fG⟩:=QM f e he vs v h φ _ hl
    refine ⟨r',hr,fun w=>?_⟩
    have:=fG w
    rw[←map_toArray] at this
    simpa [resolve,Deferred.ofValue,invoke,Act.eval] using this
  · simp at h
 · simp at h
end Go.Ab
end
section
namespace Go.Ab
variable {E:Env}
theorem zu {P:Program} {t:TypeId} {k:IntKind} (hu:P.underlying t=some (.int k)) (b:Bool) (n:Nat) (v:Value) (w:World):
 (Instr.checkKey b (n+1) t v).run P w= .ok () w:=by
 unfold Instr.checkKey
 rw[Sem.run_bind,run_underlying hu]
 rfl
theorem o9 {φ:Ph} {t:TypeId} {d:TypeDesc} {k:AV} (hu:E.P.underlying t=some d) (hk:kn E (some d) k=true) {k':Value} (h:VR φ k k') (b:Bool) (n:Nat) (w:World):
 (Instr.checkKey b (n+2) t k').run E.P w= .ok () w:=by
 unfold kn at hk
 split at hk
 · rename_i fs xs hd
   cases hd
   obtain ⟨vi,rfl,AP⟩:=h.hX
   unfold Instr.checkKey
   rw[Sem.run_bind,run_underlying hu]
   simp only[Result.andThen_ok]
   have key:∀l:List Field,(l.all fun f=>match E.P.underlying f.type,g7 E f.type xs f.offset with
    | some (.int _),some (.int _ _)=>true
    | _,_=>false)=true→
    (forIn (m:=Sem) l PUnit.unit fun f (_:PUnit)=>if f.name≠ "_" then (do let x←part f.type vi f.offset;Instr.checkKey b (n+1) f.type x;pure (ForInStep.yield PUnit.unit)) else pure (ForInStep.yield PUnit.unit)).run E.P w= .ok PUnit.unit w:=by
    intro l
    induction l with
    | nil=>intro _;rfl
    | cons f l ih=>
      intro ha
      rw[List.all_cons,Bool.and_eq_true] at ha
      obtain ⟨hf,hl⟩:=ha
      have h2:=ih hl
      split at hf
      · rename_i ki kj z e1 e2
        obtain ⟨v',_,hr⟩:=m8 AP e2
        rw[Array.toArray_toList] at hr
        simp only[List.forIn_cons,Sem.run_bind]
        split
        · simp only[Sem.run_bind,hr,Result.andThen_ok,zu e1,Sem.run_pure,h2]
        · simp only[Sem.run_pure,Result.andThen_ok,h2]
      · cases hf
   have:=key fs.toList hk
   rw[Array.forIn_toList] at this
   first | exact this | (simp only[Sem.run_bind,this];rfl)
 · cases hk
theorem yj {φ:Ph}:∀{xs ys:List AV} {vi sZ:List Value},oS xs ys=true→LR φ xs vi→LR φ ys sZ→sZ=vi∧(sZ.zip vi).all (fun (x,y)=>Instr.sameBits 9999 x y)=true
 | [],[],vi,sZ,_,h,h'=>by rw[h.gU,h'.gU];exact ⟨rfl,rfl⟩
 | .int k a::xs,.int j b::ys,vi,sZ,e,h,h'=>by
   obtain ⟨x,ZN,rfl,hx,AP⟩:=h.cj
   obtain ⟨y,Ww,rfl,hy,qL⟩:=h'.cj
   simp only[oS,Bool.and_eq_true,decide_eq_true_eq] at e
   obtain ⟨⟨rfl,rfl⟩,e⟩:=e
   cases hx;cases hy
   obtain ⟨h1,h2⟩:=yj e AP qL
   subst h1
   refine ⟨rfl,?_⟩
   rw[List.zip_cons_cons,List.all_cons,h2,Bool.and_true]
   simp [Instr.sameBits]
theorem zv {φ:Ph} {xs ys:List AV} (e:oS xs ys=true) {k' j':Value} (h:VR φ (.agg xs) k') (h':VR φ (.agg ys) j'):Instr.sameBits 10000 j' k'=true∧j'=k':=by
 obtain ⟨a,rfl,ha⟩:=h.hX
 obtain ⟨b,rfl,hb⟩:=h'.hX
 obtain ⟨h1,h2⟩:=yj e ha hb
 have Yb:b=a:=by cases b;cases a;simp at h1;subst h1;rfl
 subst Yb
 refine ⟨?_,rfl⟩
 rw[Instr.sameBits]
 simp only[beq_self_eq_true,Bool.true_and]
 exact h2
def Kw (φ:Ph) (k j:AV):Prop:=∀{k' j':Value},VR φ k k'→VR φ j j'→Instr.sameBits 10000 j' k'=true∧j'=k'
theorem m_ {φ:Ph} {key:TypeId} {k:AV} {k':Value} (h:VR φ k k'):∀{es:List ja} {iV:List MapEntry} (_:G8 φ es iV) {i:Nat} {r:Option (Nat×AV)} (_:findD E key k es i=some r),
 ∃r',(∀w,(Instr.findAsking key k' iV i).run E.P w= .ok r' w)∧(match r,r' with | none,none=>True | some (j,v),some (j',v')=>j=j'∧VR φ v v'∧i≤j∧∃e,es[j - i]? =some e∧Kw φ k e.key | _,_=>False)
 | [],iV,he,i,r,e=>by
   cases iV with
   | nil=>simp [findD] at e;subst e;exact ⟨none,fun w=>rfl,trivial⟩
   | cons _ _=>simp [G8] at he
 | x::es,iV,he,i,r,e=>by
   obtain ⟨hl,hv⟩:=he
   cases iV with
   | nil=>simp at hl
   | cons y ys=>
     have hx:=hv 0 x y (by simp) (by simp)
     simp only[findD] at e
     split at e
     · rename_i heq
       split at e
       · rename_i zs hz _
         split at e
         · rename_i hs
           simp at e;subst e
           refine ⟨some (i,y.val),fun w=>?_,rfl,hx.val,Nat.le_refl _,x,by simp,?_⟩
           · have q:=lR 16 9984 key _ _ true _ _ heq h hx.key w
             simp only[Instr.findAsking,Sem.run_bind,Op.equal]
             rw[show Op.maxDepth=9984+16 from rfl,q]
             rfl
           · intro a b ha hb
             rw[hz] at hb
             exact zv hs ha hb
         · cases e
       · cases e
     · rename_i heq
       obtain ⟨r',h1,h2⟩:=m_ h (es:=es) (iV:=ys) ⟨by simpa using hl,fun i a b p q=>hv (i+1) a b (by simpa using p) (by simpa using q)⟩ e
       refine ⟨r',fun w=>?_,?_⟩
       · have q:=lR 16 9984 key _ _ false _ _ heq h hx.key w
         simp only[Instr.findAsking,Sem.run_bind,Op.equal]
         rw[show Op.maxDepth=9984+16 from rfl,q]
         exact h1 w
       · cases r with
         | none=>cases r' with
           | none=>trivial
           | some _=>exact h2
         | some p=>
           obtain ⟨j,v⟩:=p
           cases r' with
           | none=>exact h2
           | some q=>
             obtain ⟨j',v'⟩:=q
             obtain ⟨h3,h4,h5,e',h6,h7⟩:=h2
             refine ⟨h3,h4,by omega,e',?_,h7⟩
             rw[show j - i=(j -(i+1))+1 by omega];simpa using h6
     · cases e
theorem ly {φ:Ph} {key:TypeId} {d:TypeDesc} {k:AV} (hd:E.P.underlying key=some d) (hk:kn E (some d) k=true) {k':Value} (h:VR φ k k') {iV:List MapEntry} {r':Option (Nat×Value)} {w:World} (hr:(Instr.findAsking key k' iV 0).run E.P w= .ok r' w):
 (Instr.findKey key k' iV).run E.P w= .ok r' w:=by
 unfold kn at hk
 split at hk
 · rename_i fs xs Yc
   cases Yc
   obtain ⟨vi,rfl,AP⟩:=h.hX
   rw[Instr.findKey,Sem.run_bind,run_underlying hd]
   simp only[Result.andThen_ok]
   cases iV with
   | nil=>exact hr
   | cons y ys=>
     have:Instr.findNow (.struct fs) (.agg vi) (y::ys) 0=none:=rfl
     rw[this]
     exact hr
 · cases hk
end Go.Ab
end
section
namespace Go.Ab
variable {E:Env}
theorem OK.cells {φ:Ph} {h:aq} {w:World} (ok:OK E φ h w) {i:Nat} {cs:List AV} {e:TypeId} {ro:Bool} (hg:h.get i=some (.cells cs e ro)) {l:Loc} (hl:φ i=some l):
 ∃C e' lo hi,w.heap[l.eV]? =some (.cells C e' (lo,hi))∧CR E φ cs e ro l C lo hi:=by
 exact ok.live i _ l hg hl
theorem yk {φ:Ph} {h:aq} {w:World} (ok:OK E φ h w) {t:TypeId} {av v:AV} {v':Value} (hv:VR φ av v') (e:b9 E h t av=some v):
 ∃x',VR φ v x'∧∀w',w'.heap=w.heap→(Instr.loadAt t v').run E.P w'= .ok x' w':=by
 unfold b9 at e
 split at e
 · rename_i i o
   cases hv with
   | @ptr _ l _ hφ=>
   split at e
   · rename_i cs el ro hg
     obtain ⟨C,e',lo,hi,hb,hc⟩:=ok.cells hg hφ
     unfold g7 at e
     split at e
     · rename_i ha
       split at e
       · rename_i n hn
         split at e
         · rename_i hle
           simp at e;subst e
           obtain ⟨vs,QO,Cr,vr⟩:=hc.range o n hle
           refine ⟨.agg vs.toArray,VR.E9 vr,fun w' QP=>?_⟩
           rw[←QP] at hb
           have vv:=lx (P:=E.P) hb (l.off+o) vs Cr
           rw[QO] at vv
           simp only[Instr.loadAt,Instr.sureAddr,Sem.run_bind,Sem.run_pure,Result.andThen_ok,loadVar,nK ha,if_true,dk hn,vv]
         · simp at e
       · simp at e
     · rename_i ha
       obtain ⟨y,hy,hr⟩:=hc.val o v e
       refine ⟨y,hr,fun w' QP=>?_⟩
       rw[←QP] at hb
       simp only[Instr.loadAt,Instr.sureAddr,Sem.run_bind,Sem.run_pure,Result.andThen_ok,loadVar,nK ha,Bool.false_eq_true,if_false,run_load,nI hb,hy]
     · simp at e
   · simp at e
 · simp at e
theorem AS {P:Program} (l:List Int):∀(vs:List Value) (acc:ByteArray) (w:World),vs=l.map (fun n=>Value.int .u8 n)→
 (forIn vs acc (fun c s=>(match c with | .int .u8 n=>do pure (ForInStep.yield (s.push (UInt8.ofNat n.toNat))) | _=>do stuck "bytesToString: byte expected";pure (ForInStep.yield s):Sem (ForInStep ByteArray)))).run P w= .ok ⟨(acc.data.toList++l.map (fun n=>UInt8.ofNat n.toNat)).toArray⟩ w:=by
 induction l with
 | nil=>intro vs acc w h;simp at h;subst h;simp [List.forIn_nil]
 | cons b l ih=>
   intro vs acc w h
   cases vs with
   | nil=>simp at h
   | cons v vs=>
     simp at h
     obtain ⟨rfl,CM⟩:=h
     simp only[List.forIn_cons,Sem.run_bind,Sem.run_pure,Result.andThen_ok]
     rw[ih vs _ w CM]
     simp [ByteArray.push]
theorem yl {φ:Ph} {d:TypeDesc} {k j:AV} {r:Bool} (hk:gv (some d) k=true) (e:yb k j=some r) {k' j':Value} (h:VR φ k k') (h':VR φ j j'):Instr.sameNow d k' j'=some r:=by
 unfold yb at e
 split at e
 · generalize hs:AV.str _=s at h
   generalize nL:AV.str _=s' at h'
   cases h<;>cases hs
   cases h'<;>cases nL
   simp at e;subst e
   cases d<;>simp [gv] at hk
   rename_i s s'
   simp only[Instr.sameNow]
   congr 1
 · cases h;cases h'
   split at e
   · rename_i vw
     simp at e;subst e;subst vw
     cases d<;>simp [gv] at hk
     simp [Instr.sameNow]
   · simp at e
 · cases h;cases h'
   simp at e;subst e
   cases d<;>simp [gv] at hk
   simp [Instr.sameNow]
 · simp at e
theorem na {φ:Ph} {d:TypeDesc} {k:AV} {k':Value} (hk:gv (some d) k=true) (h:VR φ k k'):∀{es:List ja} {iV:List MapEntry} (_:G8 φ es iV) {i:Nat} {r:Option (Nat×AV)} (_:oT k es i=some r),
 ∃r',Instr.findNow d k' iV i=some r'∧(match r,r' with | none,none=>True | some (j,v),some (j',v')=>j=j'∧VR φ v v'∧i≤j∧∃e,es[j - i]? =some e∧yb k e.key=some true | _,_=>False)
 | [],iV,he,i,r,e=>by
   cases iV with
   | nil=>simp [oT] at e;subst e;exact ⟨none,rfl,trivial⟩
   | cons _ _=>simp [G8] at he
 | x::es,iV,he,i,r,e=>by
   obtain ⟨hl,hv⟩:=he
   cases iV with
   | nil=>simp at hl
   | cons y ys=>
     have hx:=hv 0 x y (by simp) (by simp)
     simp only[oT] at e
     split at e
     · rename_i heq
       simp at e;subst e
       refine ⟨some (i,y.val),?_,rfl,hx.val,Nat.le_refl _,x,by simp,heq⟩
       simp [Instr.findNow,yl hk heq h hx.key]
     · rename_i heq
       obtain ⟨r',h1,h2⟩:=na hk h (es:=es) (iV:=ys) ⟨by simpa using hl,fun i a b p q=>hv (i+1) a b (by simpa using p) (by simpa using q)⟩ e
       refine ⟨r',?_,?_⟩
       · simp [Instr.findNow,yl hk heq h hx.key,h1]
       · cases r with
         | none=>cases r' with
           | none=>trivial
           | some _=>exact h2
         | some p=>
           obtain ⟨j,v⟩:=p
           cases r' with
           | none=>exact h2
           | some q=>
             obtain ⟨j',v'⟩:=q
             obtain ⟨h3,h4,h5,e',h6,h7⟩:=h2
             refine ⟨h3,h4,by omega,e',?_,h7⟩
             rw[show j - i=(j -(i+1))+1 by omega];simpa using h6
     · simp at e
theorem nN {P:Program} {t:TypeId} {d:TypeDesc} (hu:P.underlying t=some d) {k:AV} (hk:gv (some d) k=true) {φ:Ph} {k':Value} (h:VR φ k k') (b:Bool) (n:Nat) (w:World):
 (Instr.checkKey b (n+1) t k').run P w= .ok () w:=by
 unfold Instr.checkKey
 rw[Sem.run_bind,run_underlying hu]
 cases d<;>simp [gv] at hk<;>cases h<;>first | rfl | (simp [gv] at hk)
theorem rC {P:Program} {w:World} {a:Addr} {n:Nat} (l:List Int) (hl:(loadCells a n).run P w= .ok ((l.map (fun n=>Value.int .u8 n)).toArray) w) (c:Nat):
 (Conv.bytesToString (.slice (some a) n c)).run P w= .ok (.string ⟨(l.map (fun n=>UInt8.ofNat n.toNat)).toArray⟩) w:=by
 unfold Conv.bytesToString
 simp only[Sem.run_bind,hl,Result.andThen_ok]
 have:=AS (P:=P) l (l.map (fun n=>Value.int .u8 n)) ByteArray.empty w rfl
 have e:forIn (m:=Sem) (l.map (fun n=>Value.int .u8 n)).toArray ByteArray.empty (fun c s=>(match c with | .int .u8 n=>do pure (ForInStep.yield (s.push (UInt8.ofNat n.toNat))) | _=>do stuck "bytesToString: byte expected";pure (ForInStep.yield s):Sem (ForInStep ByteArray)))
  =forIn (m:=Sem) (l.map (fun n=>Value.int .u8 n)) ByteArray.empty (fun c s=>(match c with | .int .u8 n=>do pure (ForInStep.yield (s.push (UInt8.ofNat n.toNat))) | _=>do stuck "bytesToString: byte expected";pure (ForInStep.yield s):Sem (ForInStep ByteArray))):=by
  rw[←Array.forIn_toList]
 rw[←e] at this
 refine (congrArg (fun r=>Result.andThen r fun a w'=>Sem.run P (pure (Value.string a)) w') this).trans ?_
 simp
theorem tZ {φ:Ph}:∀{cs:List AV} {vs:List Value} (_:LR φ cs vs) {l:List UInt8} (_:dp (fun | .int .u8 b=>some (UInt8.ofNat b.toNat) | _=>none) cs=some l),
 ∃ns:List Int,vs=ns.map (fun n=>Value.int .u8 n)∧l=ns.map (fun n=>UInt8.ofNat n.toNat)
 | [],vs,hv,l,h=>by rw[hv.gU];simp [dp] at h;subst h;exact ⟨[],rfl,rfl⟩
 | c::cs,vs,hv,l,h=>by
   obtain ⟨y,ys,rfl,hy,qL⟩:=hv.cj
   simp only[dp] at h
   split at h
   · simp at h
   · rename_i b hb
     split at h
     · simp at h
     · rename_i bs Yd
       simp at h;subst h
       obtain ⟨ns,rfl,rfl⟩:=tZ qL Yd
       split at hb
       · cases hy
         simp at hb;subst hb
         exact ⟨_::ns,rfl,rfl⟩
       · simp at hb
structure Entries (P:Program) (x:Value) (es:Array MapEntry) (w:World):Prop where
 is:(x= .map none∧es= #[])∨∃r clock,x= .map (some r)∧w.heap[r]? =some (.map es clock)
theorem vx {P:Program} {t key elem:TypeId} (hu:P.underlying t=some (.map key elem)) {x k:Value} {es:Array MapEntry} {w:World} (s_:Entries P x es w)
 {d:TypeDesc} (hd:P.underlying key=some d) (Cs:∀b n,(Instr.checkKey b (n+1) key k).run P w= .ok () w) {r:Option (Nat×Value)} (hf:Instr.findNow d k es.toList 0=some r) {z:Value} (hz:r=none→(zeroValue elem).run P w= .ok z w) (ok:Bool):
 (Instr.lookup t x k ok).run P w= .ok (match r with | some (_,v)=>if ok then .tuple #[v,.bool true] else v | none=>if ok then .tuple #[z,.bool false] else z) w:=by
 have Ff:=fun b=>Cs b 9999
 rw[Instr.lookup]
 simp only[Sem.run_bind,run_underlying hu,Result.andThen_ok]
 rcases s_.is with ⟨rfl,rfl⟩ | ⟨b,clock,rfl,hb⟩
 · simp only[Sem.run_bind,Sem.run_pure,Result.andThen_ok,Ff,Instr.findKey,run_underlying hd,hf]
   cases r with
   | none=>simp [hz rfl]
   | some q=>simp
 · have xF:(getObj b).run P w= .ok (.map es clock) w:=by simp [getObj,Sem.run,hb]
   simp only[Sem.run_bind,Sem.run_pure,Result.andThen_ok,xF,Ff,Instr.findKey,run_underlying hd,hf]
   cases r with
   | none=>simp [hz rfl]
   | some q=>simp
theorem t_ {P:Program} {t key elem:TypeId} (hu:P.underlying t=some (.map key elem)) {x k:Value} {es:Array MapEntry} {w:World} (s_:Entries P x es w)
 (Cs:∀b,(Instr.checkKey b 10000 key k).run P w= .ok () w) {r:Option (Nat×Value)} (hf:(Instr.findKey key k es.toList).run P w= .ok r w) {z:Value} (hz:r=none→(zeroValue elem).run P w= .ok z w) (ok:Bool):
 (Instr.lookup t x k ok).run P w= .ok (match r with | some (_,v)=>if ok then .tuple #[v,.bool true] else v | none=>if ok then .tuple #[z,.bool false] else z) w:=by
 rw[Instr.lookup]
 simp only[Sem.run_bind,run_underlying hu,Result.andThen_ok]
 rcases s_.is with ⟨rfl,rfl⟩ | ⟨b,clock,rfl,hb⟩
 · simp only[Sem.run_bind,Sem.run_pure,Result.andThen_ok,Cs,hf]
   cases r with
   | none=>simp [hz rfl]
   | some q=>simp
 · have xF:(getObj b).run P w= .ok (.map es clock) w:=by simp [getObj,Sem.run,hb]
   simp only[Sem.run_bind,Sem.run_pure,Result.andThen_ok,xF,Cs,hf]
   cases r with
   | none=>simp [hz rfl]
   | some q=>simp
theorem ua {φ:Ph} (hg:GL E φ) {h:aq} {w:World} (ok:OK E φ h w) {ts:List AV} {a:Act} (ht:LR φ ts a.tmps.toList) {o:Oper} {v:AV} (e:c9 E ts h o.op=some v):
 ∃v',VR φ v v'∧∀w',w'.heap=w.heap→(execOp a.eval o).run E.P w'= .ok (.value v') w':=by
 have ev:∀{x:Operand} {v:AV},dr E ts x=some v→VR φ v (a.eval x):=fun h=>kR hg ht h
 unfold execOp
 generalize o.op=op at e ⊢
 unfold c9 at e
 split at e
 ·
  split at e
  · rename_i hx
    obtain ⟨x',QR,hr⟩:=yk ok (ev hx) e
    exact ⟨x',QR,fun w' hw=>dQ (hr w' hw)⟩
  · simp at e
 ·
  split at e
  · rename_i el v0 hs hd hx
    split at e
    · rename_i he
      simp at e;subst e
      have h1:=ev hx
      generalize je:a.eval _=cv at h1
      cases h1
      refine ⟨.string .empty,VR.str .empty,fun w' _=>dQ ?_⟩
      simp [je,convert,run_underlying hs,run_underlying hd,run_underlying he,Conv.bytesToString]
    · rename_i i o len _ _ he
      split at e
      · rename_i l hb
        simp at e;subst e
        have h1:=ev hx
        generalize je:a.eval _=cv at h1
        cases h1 with
        | @slice _ lc _ _ _ _ hφ=>
        unfold zj at hb
        split at hb
        · rename_i cs ZO ro Ye
          split at hb
          · rename_i hle
            obtain ⟨C,e',lo,hi,Wx,hc⟩:=ok.cells Ye hφ
            obtain ⟨vs,QO,Cr,vr⟩:=hc.range o len hle
            obtain ⟨ns,rfl,rfl⟩:=tZ vr hb
            refine ⟨.string ⟨(ns.map (fun n=>UInt8.ofNat n.toNat)).toArray⟩,?_,fun w' QP=>dQ ?_⟩
            · have:=VR.str (φ:=φ) ⟨(ns.map (fun n=>UInt8.ofNat n.toNat)).toArray⟩
              simpa using this
            · rw[←QP] at Wx
              have vv:=lx (P:=E.P) Wx (lc.off+o) _ Cr
              rw[QO] at vv
              have:=rC ns vv (fp ‹_› ‹_› lc.gI)
              rw[je]
              simp only[convert,Sem.run_bind,run_underlying hs,run_underlying hd,Result.andThen_ok,run_underlying he]
              exact this
          · simp at hb
        · simp at hb
      · simp at e
    · simp at e
  · simp at e
 ·
  rename_i t x ix fm
  split at e
  · rename_i key elem m k hu hm hk
    split at e
    · rename_i vw
      have CO:∃d,E.P.underlying key=some d∧gv (some d) k=true:=by
       cases hd:E.P.underlying key with
       | none=>rw[hd] at vw;simp [gv] at vw
       | some d=>rw[hd] at vw;exact ⟨d,rfl,vw⟩
      obtain ⟨d,hd,vy⟩:=CO
      have Kx:=ev hm
      have Hk:=ev hk
      split at e
      · simp at e
      · rename_i es s_
        have ta:∃iV:Array MapEntry,G8 φ es iV.toList∧∀w',w'.heap=w.heap→Entries E.P (a.eval x) iV w':=by
         split at s_
         · simp at s_;subst s_
           generalize je:a.eval x=cv at Kx
           cases Kx
           exact ⟨#[],⟨rfl,fun i x y p _=>by simp at p⟩,fun w' _=>⟨.inl ⟨rfl,rfl⟩⟩⟩
         · rename_i i
           split at s_
           · rename_i Yf clock QS
             simp at s_;subst s_
             generalize je:a.eval x=cv at Kx
             cases Kx with
             | @map _ l hφ=>
             have xu:=ok.live i _ l QS hφ
             obtain ⟨Hl,iV,hb,jc⟩:=xu
             exact ⟨iV,jc,fun w' hw=>⟨.inr ⟨l.eV,clock,rfl,by rw[hw];exact hb⟩⟩⟩
           · simp at s_
         · simp at s_
        obtain ⟨iV,jc,fG⟩:=ta
        split at e
        · simp at e
        · rename_i j v0 hf
          obtain ⟨r',h1,h2⟩:=na vy Hk jc hf
          cases r' with
          | none=>exact h2.elim
          | some q=>
          obtain ⟨j',v'⟩:=q
          obtain ⟨_,Cr,_⟩:=h2
          simp at e;subst e
          refine ⟨if fm then .tuple #[v',.bool true] else v',?_,fun w' hw=>dQ ?_⟩
          · split
            · exact VR.tuple' (gG:=[v',.bool true]) (.cons Cr (.cons (.bool true) (.nil φ)))
            · exact Cr
          · exact vx hu (fG w' hw) hd (fun b n=>nN hd vy Hk b n w') h1 (z:=undef) (fun e=>by simp at e) fm
        · rename_i hf
          obtain ⟨r',h1,h2⟩:=na vy Hk jc hf
          cases r' with
          | some q=>exact h2.elim
          | none=>
          split at e
          · rename_i z hz
            simp at e;subst e
            obtain ⟨z',uK,iI⟩:=gM hz
            refine ⟨if fm then .tuple #[z',.bool false] else z',?_,fun w' hw=>dQ ?_⟩
            · split
              · exact VR.tuple' (gG:=[z',.bool false]) (.cons (uK φ) (.cons (.bool false) (.nil φ)))
              · exact uK φ
            · exact vx hu (fG w' hw) hd (fun b n=>nN hd vy Hk b n w') h1 (fun _=>iI w') fm
          · simp at e
    · split at e
      · rename_i vw
        have CO:∃d,E.P.underlying key=some d∧kn E (some d) k=true:=by
         cases hd:E.P.underlying key with
         | none=>rw[hd] at vw;simp [kn] at vw
         | some d=>rw[hd] at vw;exact ⟨d,rfl,vw⟩
        obtain ⟨d,hd,vy⟩:=CO
        have Kx:=ev hm
        have Hk:=ev hk
        split at e
        · simp at e
        · rename_i es s_
          have ta:∃iV:Array MapEntry,G8 φ es iV.toList∧∀w',w'.heap=w.heap→Entries E.P (a.eval x) iV w':=by
           split at s_
           · simp at s_;subst s_
             generalize je:a.eval x=cv at Kx
             cases Kx
             exact ⟨#[],⟨rfl,fun i x y p _=>by simp at p⟩,fun w' _=>⟨.inl ⟨rfl,rfl⟩⟩⟩
           · rename_i i
             split at s_
             · rename_i Yf clock QS
               simp at s_;subst s_
               generalize je:a.eval x=cv at Kx
               cases Kx with
               | @map _ l hφ=>
               have xu:=ok.live i _ l QS hφ
               obtain ⟨Hl,iV,hb,jc⟩:=xu
               exact ⟨iV,jc,fun w' hw=>⟨.inr ⟨l.eV,clock,rfl,by rw[hw];exact hb⟩⟩⟩
             · simp at s_
           · simp at s_
          obtain ⟨iV,jc,fG⟩:=ta
          split at e
          · simp at e
          · rename_i j v0 hf
            obtain ⟨r',h1,h2⟩:=m_ Hk jc hf
            cases r' with
            | none=>exact h2.elim
            | some q=>
            obtain ⟨j',v'⟩:=q
            obtain ⟨_,Cr,_⟩:=h2
            simp at e;subst e
            refine ⟨if fm then .tuple #[v',.bool true] else v',?_,fun w' hw=>dQ ?_⟩
            · split
              · exact VR.tuple' (gG:=[v',.bool true]) (.cons Cr (.cons (.bool true) (.nil φ)))
              · exact Cr
            · exact t_ hu (fG w' hw) (fun b=>o9 hd vy Hk b 9998 w') (ly hd vy Hk (h1 w')) (z:=undef) (fun e=>by simp at e) fm
          · rename_i hf
            obtain ⟨r',h1,h2⟩:=m_ Hk jc hf
            cases r' with
            | some q=>exact h2.elim
            | none=>
            split at e
            · rename_i z hz
              simp at e;subst e
              obtain ⟨z',uK,iI⟩:=gM hz
              refine ⟨if fm then .tuple #[z',.bool false] else z',?_,fun w' hw=>dQ ?_⟩
              · split
                · exact VR.tuple' (gG:=[z',.bool false]) (.cons (uK φ) (.cons (.bool false) (.nil φ)))
                · exact uK φ
              · exact t_ hu (fG w' hw) (fun b=>o9 hd vy Hk b 9998 w') (ly hd vy Hk (h1 w')) (fun _=>iI w') fm
            · simp at e
      · simp at e
  · simp at e
 ·
  split at e
  · rename_i t i GK CM
    have hl:=fO hg ht CM
    obtain ⟨y,ys,qL,hy,zt⟩:=hl.cj
    rw[zt.gU] at qL
    have h0:∀(args:Array Operand),args.toList.map a.eval=[y]→args.map a.eval= #[y]:=fun args e=>by rw[map_toArray,e]
    have h0:=h0 _ qL
    cases hy with
    | @map _ l hφ=>
    split at e
    · rename_i es clock hu QS
      simp at e;subst e
      have xu:=ok.live i _ l QS hφ
      obtain ⟨Hl,iV,hb,hlen,_⟩:=xu
      refine ⟨_,.int _ _,fun w' hw=>?_⟩
      rw[←hw] at hb
      have xF:(getObj l.eV).run E.P w'= .ok (.map iV clock) w':=by simp [getObj,Sem.run,hb]
      simp [resolve,invoke,builtin,h0,Builtin.len_,GK,run_underlying hu,goInt,xF,hlen]
    · simp at e
  · simp at e
 · simp at e
end Go.Ab
end
section
namespace Go.Ab
variable {E:Env}
theorem rD (z:List AV):∀(n i:Nat),i<n*z.length→(eN z n)[i]? =z[i%z.length]?
 | 0,i,h=>by omega
 | n+1,i,h=>by
   rw[eN]
   by_cases hi:i<z.length
   · rw[List.getElem?_append_left hi,Nat.mod_eq_of_lt hi]
   · rw[List.getElem?_append_right (by omega),rD z n (i - z.length) (by rw[Nat.add_mul] at h;omega)]
     rw[Nat.mod_eq_sub_mod (a:=i) (by omega)]
theorem kS (z:List AV):∀n,(eN z n).length=n*z.length
 | 0=>by simp [eN]
 | n+1=>by rw[eN,List.length_append,kS z n,Nat.add_mul];omega
theorem CP {φ:Ph} {z:List AV} {z':Array Value} (h:LR φ z z'.toList) (n:Nat):LR φ (eN z n) ((Array.range (n*z'.size)).map (fun i=>z'[i%z'.size]!)).toList:=by
 have hl:z.length=z'.size:=by simpa using h.1
 refine ⟨by rw[kS];simp [hl],fun i x y hx hy=>?_⟩
 have hi:i<n*z.length:=by
  have:=(List.getElem?_eq_some_iff.1 hx).1
  rwa [kS] at this
 rw[rD z n i hi] at hx
 obtain ⟨v,hv,hr⟩:=h.get hx
 have Un:0<z'.size:=by
  rcases Nat.eq_zero_or_pos z'.size with h0 | h0
  · rw[hl,h0] at hi;omega
  · exact h0
 have:i%z'.size<z'.size:=Nat.mod_lt _ Un
 rw[hl] at hi
 simp [hi] at hy
 rw[hl] at hv
 simp [this] at hv
 simp [this] at hy
 rw[←hy,hv];exact hr
structure Made (E:Env) (φ:Ph) (obj:aP) (mk:Nat→AV) (O:Obj) (mk':Nat→Value):Prop where
 val:∀(φ':Ph) (i b:Nat),φ.le φ'→φ' i=some ⟨b,0,0⟩→VR φ' (mk i) (mk' b)
 obj:∀(φ':Ph) (b:Nat),φ.le φ'→OR E φ' obj ⟨b,0,0⟩ (some O)
theorem rE {φ φ':Ph} (hle:φ.le φ') {cs:List AV} {C:Array Value} (h:LR φ cs C.toList) (t e:TypeId) (b:Nat):OR E φ' (.cells cs t false) ⟨b,0,0⟩ (some (.cells C e)):=by
 refine ⟨C,e,0,0,rfl,?_,fun k x hk=>?_,fun _ k _ _=>by omega,fun _ _ _=>rfl⟩
 · have:=h.1;simp at this;simp [ei,this]
 · obtain ⟨y,hy,hr⟩:=h.get hk
   exact ⟨y,by simpa using hy,hr.mono hle⟩
set_option linter.unusedSimpArgs false in
set_option maxHeartbeats 1000000 in
theorem rF {φ:Ph} (hg:GL E φ) {ts:List AV} {a:Act} (ht:LR φ ts a.tmps.toList) {o:Oper} {obj:aP} {mk:Nat→AV} (e:dj E ts o.op=some (obj,mk)):
 ∃O mk',Made E φ obj mk O mk'∧∀w,(execOp a.eval o).run E.P w= .ok (.value (mk' w.heap.size)) (w.alloc O):=by
 have ev:∀{x:Operand} {v:AV},dr E ts x=some v→VR φ v (a.eval x):=fun h=>kR hg ht h
 unfold execOp
 generalize o.op=op at e ⊢
 unfold dj at e
 split at e
 ·
  rename_i t
  split at e
  · rename_i z hz
    simp at e;obtain ⟨rfl,rfl⟩:=e
    obtain ⟨z',uK,iI⟩:=gM hz
    refine ⟨.cells z'.cells t,fun b=> .pointer (some ⟨b,0,none⟩),⟨fun φ' i b _ hi=>by have:=VR.ptr (φ:=φ') 0 hi;simpa using this,fun φ' b hle=>rE hle (uK φ).cells _ _ b⟩,fun w=>dQ ?_⟩
    simp [Instr.alloc,iI,newVar,newRow]
  · simp at e
 ·
  rename_i t x
  split at e
  · rename_i v hv
    simp at e;obtain ⟨rfl,rfl⟩:=e
    refine ⟨.cells (a.eval x).cells t,fun b=> .pointer (some ⟨b,0,none⟩),⟨fun φ' i b _ hi=>by have:=VR.ptr (φ:=φ') 0 hi;simpa using this,fun φ' b hle=>rE hle (ev hv).cells _ _ b⟩,fun w=>dQ ?_⟩
    simp [Instr.box,newVar,newRow]
  · simp at e
 ·
  rename_i t len parts
  split at e
  · rename_i elem hu
    split at e
    · rename_i n z ps hn hz Ul
      split at e
      · rename_i hc
        split at e
        · rename_i cs hf
          simp at e;obtain ⟨rfl,rfl⟩:=e
          obtain ⟨z',uK,iI⟩:=gM hz
          have hp:=s9 hg ht Ul
          have N':z'.cells.size=n:=by have:=(uK φ).cells.1;simp at this;omega
          have Hm:=CP (uK φ).cells len
          rw[N'] at Hm
          obtain ⟨C',tX,vr⟩:=pT (place:=fun i=>some (i*n,n)) (qs:=(parts.map fun (i,x)=>(i,a.eval x)).toList) (by simpa using hp) Hm hf
          refine ⟨.cells C' elem,fun b=> .slice (some ⟨b,0,none⟩) len len,⟨fun φ' i b _ hi=>by have:=VR.slice (φ:=φ') 0 len len false hi;simpa [fp] using this,fun φ' b hle=>rE hle vr _ _ b⟩,fun w=>dQ ?_⟩
          have GM:¬len*n>2^24:=by omega
          simp only[Instr.buildSlice,Sem.run_bind,run_underlying hu,Result.andThen_ok,dk hn,GM,if_false,Sem.run_pure]
          by_cases h0:len*n=0
          · simp only[h0,if_true,Sem.run_pure,Result.andThen_ok]
            rw[h0] at tX
            have r0:Array.range 0= #[]:=rfl
            simp [r0] at tX
            simp [tX,newRow,r0]
          · simp only[h0,if_false,Sem.run_bind,iI,Result.andThen_ok,Sem.run_pure]
            rw[N']
            simp only[tX]
            simp [newRow]
        · simp at e
      · simp at e
    · simp at e
  · simp at e
 ·
  rename_i t lo co
  split at e
  · rename_i elem k len k' cap hu hl hc
    split at e
    · rename_i n bytes z hn hb hz
      split at e
      · rename_i Hh
        obtain ⟨c1,c2,c3,c4,c5⟩:=Hh
        simp at e;obtain ⟨rfl,rfl⟩:=e
        obtain ⟨z',uK,iI⟩:=gM hz
        have N':z'.cells.size=n:=by have:=(uK φ).cells.1;simp at this;omega
        have Hm:=CP (uK φ).cells cap.toNat
        rw[N'] at Hm
        have h1:=ev hl
        have h2:=ev hc
        generalize Oa:a.eval lo=lv at h1
        generalize je:a.eval co=cv at h2
        cases h1;cases h2
        refine ⟨.cells ((Array.range (cap.toNat*n)).map (fun i=>z'.cells[i%n]!)) elem,fun b=> .slice (some ⟨b,0,none⟩) len.toNat cap.toNat,
         ⟨fun φ' i b _ hi=>by have:=VR.slice (φ:=φ') 0 len.toNat cap.toNat false hi;simpa [fp] using this,fun φ' b hle=>rE hle Hm _ _ b⟩,fun w=>dQ ?_⟩
        have w1:IntKind.i64.wrap len=len:=IntWalk.i64_in _ (by omega)
        have w2:IntKind.i64.wrap cap=cap:=IntWalk.i64_in _ (by omega)
        obtain ⟨inf,AT,jt⟩:=m7 hb w
        have t1:¬(cap<0∨(2^48:Int)<bytes*cap):=by omega
        simp only[Instr.makeSlice,Sem.run_bind,run_underlying hu,Result.andThen_ok,Oa,je,asInt,asIntOf,Sem.run_pure,AT,jt,w1,w2]
        have Ob:(0:Int)≤inf.bytes*cap:=Int.mul_nonneg (by omega) (by omega)
        have tl:(decide (cap<0)||decide ((inf.bytes:Int)*cap>2^48))=false:=by
         rw[jt];simp only[Bool.or_eq_false_iff,decide_eq_false_iff_not];omega
        have Yg:decide (len<0)=false:=by simp only[decide_eq_false_iff_not];omega
        have Yh:decide (len>cap)=false:=by simp only[decide_eq_false_iff_not];omega
        rw[←jt]
        simp only[tl,Yg,Yh,Bool.or_self,Bool.false_eq_true,if_false,run_askRoom,dk hn,Sem.run_bind,Result.andThen_ok]
        by_cases h0:cap.toNat*n=0
        · have r0:Array.range 0= #[]:=rfl
          simp [h0,newRow,r0]
        · simp only[h0,if_false,Sem.run_bind,iI,Result.andThen_ok,Sem.run_pure]
          simp [newRow,N']
      · simp at e
    · simp at e
  · simp at e
 ·
  rename_i t r
  split at e
  · simp at e;obtain ⟨rfl,rfl⟩:=e
    exact ⟨.map #[] 0,fun b=> .map (some b),⟨fun φ' i b _ hi=>by have:=VR.map (φ:=φ') hi;simpa using this,fun φ' b hle=>⟨rfl, #[],rfl,rfl,fun i x y p _=>by simp at p⟩⟩,fun w=>dQ (by simp [Instr.makeMap])⟩
  · rename_i o
    split at e
    · rename_i hu hv
      simp at e;obtain ⟨rfl,rfl⟩:=e
      have h1:=ev hv
      generalize Oa:a.eval o=lv at h1
      cases h1
      exact ⟨.map #[] 0,fun b=> .map (some b),⟨fun φ' i b _ hi=>by have:=VR.map (φ:=φ') hi;simpa using this,fun φ' b hle=>⟨rfl, #[],rfl,rfl,fun i x y p _=>by simp at p⟩⟩,fun w=>dQ (by simp [Instr.makeMap,run_underlying hu,Oa,asInt,asIntOf])⟩
    · simp at e
 ·
  rename_i t x
  split at e
  · rename_i s hu hx
    simp at e;obtain ⟨rfl,rfl⟩:=e
    have h1:=ev hx
    generalize Oa:a.eval x=lv at h1
    generalize CL:AV.str s=s0 at h1
    cases h1<;>cases CL
    rename_i s'
    exact ⟨.stringIter s' 0,fun b=> .pointer (some ⟨b,0,none⟩),⟨fun φ' i b _ hi=>by have:=VR.ptr (φ:=φ') 0 hi;simpa using this,fun φ' b hle=>⟨rfl,s',rfl,rfl⟩⟩,fun w=>dQ (by simp [Instr.range,run_underlying hu,Oa])⟩
  · rename_i hu hx
    simp at e;obtain ⟨rfl,rfl⟩:=e
    have h1:=ev hx
    generalize Oa:a.eval x=lv at h1
    cases h1
    exact ⟨.mapIter none 0 #[] 0,fun b=> .pointer (some ⟨b,0,none⟩),⟨fun φ' i b _ hi=>by have:=VR.ptr (φ:=φ') 0 hi;simpa using this,fun φ' b hle=>⟨rfl,rfl⟩⟩,fun w=>dQ (by simp [Instr.range,run_underlying hu,Oa])⟩
  · simp at e
 · simp at e
end Go.Ab
end
