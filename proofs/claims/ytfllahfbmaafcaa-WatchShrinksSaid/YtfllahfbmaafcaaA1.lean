import Derived.Laws.StructEq
import Derived.Laws.Slices
import Derived.Laws.Strings
import Derived.ChangeKeysEq
import Derived.Deep.MidRow
import Derived.Lib.Strings
import Derived.IntWalk
import Derived.Test.YtfllahfbmaafcaaA0
set_option linter.unusedVariables false
set_option linter.unusedSimpArgs false
section
namespace Go.Ab
variable {E:Env}
def GL (E:Env) (φ:Ph):Prop:=∀g,g<E.G→φ g=some ⟨g,0,0⟩
theorem lu {φ:Ph} (hg:GL E φ) {ts:List AV} {a:Act} (ht:LR φ ts a.tmps.toList) {x:Operand} {v:AV} (h:du E ts x=some v):VR φ v (a.eval x):=by
 cases x with
 | tmp t=>
   simp only[du,Option.some.injEq] at h;subst h
   have:=ht.getD (VR.undef φ) t
   rw[show a.eval (.tmp t)=a.tmps.toList.getD t undef by simp [Act.eval,Array.getD_eq_getD_getElem?,List.getD]]
   exact this
 | const c=>exact yp φ h
 | global g=>
   simp only[du] at h
   split at h
   · rename_i jE;simp at h;subst h;have:=VR.ptr 0 (hg g jE);simpa [Act.eval] using this
   · simp at h
 | func f=>simp [du] at h;subst h;exact VR.M9 (a':=[]) (b':=[]) f (LR.nil φ) (LR.nil φ)
theorem fX {φ:Ph} (hg:GL E φ) {ts:List AV} {a:Act} (ht:LR φ ts a.tmps.toList) {l:List Operand} {r:List AV} (h:eQ E ts l=some r):LR φ r (l.map a.eval):=by
 obtain ⟨hl,hv⟩:=qa h
 refine ⟨by simp [hl],fun i x y hx hy=>?_⟩
 simp at hy
 obtain ⟨o,ho,rfl⟩:=hy
 obtain ⟨z,hz,he⟩:=hv i o ho
 rw[hx] at hz;simp at hz;subst hz
 exact lu hg ht he
theorem dz {P:Program} {t:TypeId} {n:Nat} (h:(P.info? t).map (·.size)=some n) (w:World):(sizeOf t).run P w= .ok n w:=by
 cases hq:P.info? t with
 | none=>simp [hq] at h
 | some i=>simp [hq] at h;simp [sizeOf,typeInfo,hq,h]
theorem nW {P:Program} {t:TypeId} {n:Nat} (h:(P.info? t).map (·.bytes)=some n) (w:World):∃i,(typeInfo t).run P w= .ok i w∧i.bytes=n:=by
 cases hq:P.info? t with
 | none=>simp [hq] at h
 | some i=>simp [hq] at h;exact ⟨i,by simp [typeInfo,hq],h⟩
theorem fY {t:TypeId} {z:AV} (h:eh E t=some z):∃z',(∀φ,VR φ z z')∧∀w,(zeroValue t).run E.P w= .ok z' w:=by
 unfold eh at h
 split at h
 · rename_i i hi
   split at h
   · rename_i z' hz
     exact ⟨z',fun φ=>yp φ h,fun w=>by simp [zeroValue,typeInfo,hi,hz]⟩
   · simp at h
 · simp at h
theorem oI {t:TypeId} {b:Bool} (h:eA E t=some b) (w:World):(isAgg t).run E.P w= .ok b w:=by
 unfold eA at h
 unfold isAgg
 rw[Sem.run_bind]
 split at h<;>rename_i hu<;>simp at h
 · subst h;rw[run_underlying hu];rfl
 · subst h;rw[run_underlying hu];rfl
 · rename_i d h1 h2
   subst h;rw[run_underlying hu]
   cases d<;>first | rfl | (exact absurd rfl (h1 _)) | (exact absurd rfl (h2 _ _))
theorem toArray_extract (l:List Value) (a b:Nat):l.toArray.extract a b=((l.drop a).take (b - a)).toArray:=by simp
theorem lT {φ:Ph} {t:TypeId} {cs:List AV} {gz:List Value} (hc:LR φ cs gz) {off:Nat} {v:AV} (h:fU E t cs off=some v):
 ∃v',VR φ v v'∧∀w,(part t gz.toArray off).run E.P w= .ok v' w:=by
 unfold fU at h
 split at h
 · rename_i ha
   split at h
   · rename_i n hn
     split at h
     · simp at h;subst h
       refine ⟨.agg ((gz.drop off).take n).toArray,VR.Kq ((hc.drop off).take n),fun w=>?_⟩
       simp only[part,Sem.run_bind,oI ha,Result.andThen_ok,if_true,dz hn,Sem.run_pure,toArray_extract,Nat.add_sub_cancel_left]
     · simp at h
   · simp at h
 · rename_i ha
   obtain ⟨y,hy,hv⟩:=hc.get h
   refine ⟨y,hv,fun w=>?_⟩
   simp only[part,Sem.run_bind,oI ha,Result.andThen_ok,Bool.false_eq_true,if_false]
   have:gz.toArray[off]? =some y:=by simpa using hy
   simp [this]
 · simp at h
theorem bytes_beq (a b:ByteArray):(a.toList==b.toList)=(a.data.toList==b.data.toList):=by rw[ByteArray.toList_eq,ByteArray.toList_eq]
set_option linter.unusedSimpArgs false in
theorem GV {φ:Ph} {op:BinOp} {k:IntKind} {x y:Int} {v:AV} (h:cF op k x y=some v) (hs:op≠ .shl) (oJ:op≠ .shr) (t:TypeId):
 ∃v',VR φ v v'∧∀w,(binOp op t (.int k x) (.int k y)).run E.P w= .ok v' w:=by
 unfold cF at h
 split at h
 all_goals first
  | (simp at h;subst h;exact ⟨_,.int _ _,fun w=>by simp [binOp,Op.intArith,Op.intBits,Op.intCmp]⟩)
  | (simp at h;subst h;exact ⟨_,.bool _,fun w=>by simp [binOp,Op.intArith,Op.intBits,Op.intCmp]⟩)
  | (split at h
     · simp at h
     · rename_i hy
       simp at h;subst h;exact ⟨_,.int _ _,fun w=>by simp [binOp,Op.intDiv,hy]⟩)
  | simp at h
set_option linter.unusedSimpArgs false in
theorem GW {φ:Ph} {op:BinOp} {x y:ByteArray} {v:AV} (h:sK op x.data.toList y.data.toList=some v) (t:TypeId):
 ∃v',VR φ v v'∧∀w,(binOp op t (.string x) (.string y)).run E.P w= .ok v' w:=by
 unfold sK at h
 split at h
 · split at h
   · rename_i jE
     simp at h;subst h
     refine ⟨.string (x++y),?_,fun w=>?_⟩
     · have:=VR.str (φ:=φ) (x++y);simpa using this
     · have afz:x.size+y.size<1099511627776:=by
        have e:∀b:ByteArray,b.size=b.data.toList.length:=fun b=>by cases b;rfl
        rw[e,e];exact jE
       have hm:IntKind.i64.max=9223372036854775807:=by decide
       have:¬((x.size+y.size:Nat):Int) >IntKind.i64.max:=by rw[hm];omega
       simp only[binOp,Op.stringOp,this,if_false,Sem.run_pure]
   · simp at h
 all_goals first
  | (simp only[Option.some.injEq] at h;subst h;exact ⟨_,.bool _,fun w=>by simp only[binOp,Op.stringOp,bytes_beq,ByteArray.toList_eq,Sem.run_pure]⟩)
  | simp at h
theorem Bi {φ:Ph} {t:TypeId} {x y:AV} {r:Bool} (h:Kp E t x y=some r) {x' y':Value} (hx:VR φ x x') (hy:VR φ y y') (dd:Nat):
 ∀w,(Op.equalIn (dd+1) t x' y').run E.P w= .ok r w:=by
 intro w
 unfold Kp at h
 split at h<;>(try (simp at h;done))
 all_goals
  rename_i hd
  split at h<;>(try (simp at h;done))
  all_goals
   simp only[Option.some.injEq] at h
   subst h
   unfold Op.equalIn
   rw[Sem.run_bind,run_underlying hd]
   cases hx<;>cases hy<;>rfl
theorem Ec {φ:Ph} {t:TypeId} {x y:AV} {r:Bool} (h:Kp E t x y=some r) {x' y':Value} (hx:VR φ x x') (hy:VR φ y y'):
 ∀w,(Op.equal t x' y').run E.P w= .ok r w:=Bi h hx hy 9999
theorem nB {φ:Ph} {eq:TypeId→AV→AV→Option Bool} {d:Nat} (heq:∀t a b r a' b',eq t a b=some r→VR φ a a'→VR φ b b'→∀w,(Op.equalIn d t a' b').run E.P w= .ok r w)
 {xs ys:List AV} {xW vn:Array Value} (hx:LR φ xs xW.toList) (hy:LR φ ys vn.toList):∀{fs:List Field} {r:Bool} (_:lS E eq xs ys fs=some r) (w:World),(Op.eqFields d xW vn fs).run E.P w= .ok r w
 | [],r,h,w=>by simp [lS] at h;subst h;rfl
 | f::fs,r,h,w=>by
   simp only[lS] at h
   unfold Op.eqFields
   split at h
   · rename_i hn
     rw[if_neg (by simp [hn])]
     exact nB heq hx hy h w
   · rename_i hn
     rw[if_pos hn]
     split at h
     · rename_i a b ha hb
       obtain ⟨a',hva,hra⟩:=lT hx ha
       obtain ⟨b',hvb,hrb⟩:=lT hy hb
       rw[Array.toArray_toList] at hra hrb
       split at h
       · rename_i he
         have:=nB heq hx hy h w
         simp [Sem.run_bind,hra,hrb,heq _ _ _ _ _ _ he hva hvb,this]
       · rename_i he
         simp at h;subst h
         simp [Sem.run_bind,hra,hrb,heq _ _ _ _ _ _ he hva hvb]
       · simp at h
     · simp at h
theorem lZ {φ:Ph}:∀(n d:Nat) (t:TypeId) (a b:AV) (r:Bool) (a' b':Value) (_:gG E n t a b=some r) (_:VR φ a a') (_:VR φ b b') (w:World),(Op.equalIn (d+n) t a' b').run E.P w= .ok r w
 | 0,_,_,_,_,_,_,_,h,_,_,_=>by simp [gG] at h
 | n+1,d,t,a,b,r,a',b',h,ha,hb,w=>by
   rw[←Nat.add_assoc]
   unfold gG at h
   split at h
   · cases ha;cases hb
     split at h
     · rename_i hu
       split at h
       · rename_i hk;subst hk
         simp at h;subst h
         exact run_equalIn_int w (d+n) t _ _ _ _ hu
       · simp at h
     · simp at h
   · cases ha;cases hb
     split at h
     · rename_i hu
       simp only[Option.some.injEq] at h;subst h
       rw[run_equalIn_string w (d+n) t _ _ hu,ByteArray.toList_eq,ByteArray.toList_eq]
     · simp at h
   · obtain ⟨xW,rfl,AD⟩:=ha.iz
     obtain ⟨vn,rfl,rY⟩:=hb.iz
     split at h
     · rename_i fs hu
       split at h
       · rename_i gQ
         have hfs:E.P.fieldsOf t=fs:=by simp [Program.fieldsOf,hu]
         rw[run_equalIn_struct w (d+n) t xW vn (by rw[hfs];exact hu) gQ,hfs]
         exact nB (fun t a b r a' b' h1 h2 h3 w=>lZ n d t a b r a' b' h1 h2 h3 w) AD rY h w
       · simp at h
     · simp at h
   · exact Bi h ha hb (d+n) w
theorem wq {op:BinOp} {t:TypeId} (x y:Operand) (xs ys:Array Value) (h:E.P.eqGuardType E.P.depth t=false) (w:World):(eqGuard op t x y (.agg xs) (.agg ys)).run E.P w= .ok () w:=by
 unfold eqGuard
 cases op<;>(try rfl)
 all_goals simp [Sem.run_bind,run_program,h]
theorem sr {op:BinOp} (h1:op≠ .eql) (h2:op≠ .neq) (t:TypeId) (x y:Operand) (a b:Value) (w:World):(eqGuard op t x y a b).run E.P w= .ok () w:=by
 unfold eqGuard;cases op<;>first | rfl | (exact absurd rfl h1) | (exact absurd rfl h2)
def Cp (xc yc:Bool):Value→Value→Bool
 | .nilIface,.nilIface=>xc||yc
 | .agg _,.agg _=>false
 | _,_=>true
theorem kC {op:BinOp} (t:TypeId) (x y:Operand) (a b:Value) (h:Cp (isConst x) (isConst y) a b=true) (w:World):
 (eqGuard op t x y a b).run E.P w= .ok () w:=by
 unfold eqGuard
 cases op<;>(try rfl)
 all_goals
  cases a<;>cases b<;>first
   | rfl
   | (simp [Cp] at h;done)
   | (cases x<;>cases y<;>first | rfl | (simp [Cp,isConst] at h;done))
theorem Bj {k k':IntKind} {x y:Int} (hy:¬y<0) (t:TypeId):
 (∀w,(binOp .shl t (.int k x) (.int k' y)).run E.P w= .ok (.int k (k.wrap (x*2^(min y.toNat k.bits)))) w)∧
 (∀w,(binOp .shr t (.int k x) (.int k' y)).run E.P w= .ok (.int k (x.fdiv (2^(min y.toNat k.bits)))) w):=by
 constructor<;>intro w<;>simp [binOp,Op.shift,hy]
theorem yv {φ:Ph} {a b:AV} {a' b':Value} (hx:VR φ a a') (hy:VR φ b b') {xo yo:Operand} (h:mX (isConst xo) (isConst yo) a b=true):
 Cp (isConst xo) (isConst yo) a' b'=true:=by
 cases hx<;>cases hy<;>first | rfl | exact h | (simp [mX] at h;done)
def iY:Value→Prop
 | .float _ _ | .complex _ _ _=>False
 | _=>True
theorem VR.iY {φ:Ph} {a:AV} {a':Value} (h:VR φ a a'):Ab.iY a':=by
 cases h with
 | any _ h=>cases a'<;>first | exact trivial | cases h
 | _=>exact trivial
theorem binOp_eql (t:TypeId) {a b:Value} (h1:∀k m k' m',a= .int k m→b= .int k' m'→False) (h2:∀k m,a= .string k→b= .string m→False) (h3:iY a) (h4:iY b):
 binOp .eql t a b=(do pure (.bool (←Op.equal t a b)):Sem Value):=by
 unfold binOp
 split<;>first
  | rfl
  | contradiction
  | (exact (h1 _ _ _ _ rfl rfl).elim)
  | (exact (h2 _ _ rfl rfl).elim)
  | (exact h3.elim)
  | (exact h4.elim)
  | (exfalso;simp_all;done)
theorem binOp_neq (t:TypeId) {a b:Value} (h1:∀k m k' m',a= .int k m→b= .int k' m'→False) (h2:∀k m,a= .string k→b= .string m→False) (h3:iY a) (h4:iY b):
 binOp .neq t a b=(do pure (.bool (!(←Op.equal t a b))):Sem Value):=by
 unfold binOp
 split<;>first
  | rfl
  | contradiction
  | (exact (h1 _ _ _ _ rfl rfl).elim)
  | (exact (h2 _ _ rfl rfl).elim)
  | (exact h3.elim)
  | (exact h4.elim)
  | (exfalso;simp_all;done)
set_option linter.unusedSimpArgs false in
theorem Ng {φ:Ph} {op:BinOp} {t:TypeId} {xo yo:Operand} {a b v:AV} (h:iJ E op t (isConst xo) (isConst yo) a b=some v) {a' b':Value} (hx:VR φ a a') (hy:VR φ b b'):
 ∃v',VR φ v v'∧∀w,(do eqGuard op t xo yo a' b';binOp op t a' b':Sem Value).run E.P w= .ok v' w:=by
 unfold iJ at h
 split at h
 ·
  cases hx;cases hy
  split at h
  · simp at h
  · rename_i hn
    simp at h;subst h
    refine ⟨_,.int _ _,fun w=>?_⟩
    rw[Sem.run_bind,sr (by decide) (by decide)]
    exact (Bj (E:=E) hn t).1 w
 · cases hx;cases hy
   split at h
   · simp at h
   · rename_i hn
     simp at h;subst h
     refine ⟨_,.int _ _,fun w=>?_⟩
     rw[Sem.run_bind,sr (by decide) (by decide)]
     exact (Bj (E:=E) hn t).2 w
 · rename_i k x k' y h1 h2
   cases hx;cases hy
   split at h
   · rename_i hk;subst hk
     obtain ⟨v',hv,hr⟩:=GV (φ:=φ) (E:=E) h h1 h2 t
     refine ⟨v',hv,fun w=>?_⟩
     rw[Sem.run_bind,kC _ _ _ _ _ rfl]
     exact hr w
   · simp at h
 · cases hx;cases hy
   obtain ⟨v',hv,hr⟩:=GW (φ:=φ) (E:=E) h t
   refine ⟨v',hv,fun w=>?_⟩
   rw[Sem.run_bind,kC _ _ _ _ _ rfl]
   exact hr w
 ·
  split at h
  · simp at h
  · rename_i hg
    split at h
    · rename_i r hr
      simp at h;subst h
      refine ⟨_,.bool r,fun w=>?_⟩
      obtain ⟨xW,rfl,AD⟩:=hx.iz
      obtain ⟨vn,rfl,rY⟩:=hy.iz
      rw[Sem.run_bind,wq _ _ _ _ (by simpa using hg)]
      have:=lZ 16 9984 t _ _ r _ _ hr hx hy w
      simp only[Result.andThen_ok]
      rw[binOp_eql (a:= .agg xW) (b:= .agg vn) t (fun _ _ _ _ e=>by simp at e) (fun _ _ e=>by simp at e) trivial trivial,Sem.run_bind]
      rw[show (Op.equal t (.agg xW) (.agg vn)).run E.P w= .ok r w from this];rfl
    · simp at h
 · split at h
   · simp at h
   · rename_i hg
     split at h
     · rename_i r hr
       simp at h;subst h
       refine ⟨_,.bool (!r),fun w=>?_⟩
       obtain ⟨xW,rfl,AD⟩:=hx.iz
       obtain ⟨vn,rfl,rY⟩:=hy.iz
       rw[Sem.run_bind,wq _ _ _ _ (by simpa using hg)]
       have:=lZ 16 9984 t _ _ r _ _ hr hx hy w
       simp only[Result.andThen_ok]
       rw[binOp_neq (a:= .agg xW) (b:= .agg vn) t (fun _ _ _ _ e=>by simp at e) (fun _ _ e=>by simp at e) trivial trivial,Sem.run_bind]
       rw[show (Op.equal t (.agg xW) (.agg vn)).run E.P w= .ok r w from this];rfl
     · simp at h
 · rename_i h1 h2 _
   split at h
   · rename_i hg
     split at h
     · rename_i r hr
       simp at h;subst h
       refine ⟨_,.bool r,fun w=>?_⟩
       rw[Sem.run_bind,kC _ _ _ _ _ (yv hx hy hg)]
       have:=Ec hr hx hy w
       simp only[Result.andThen_ok]
       rw[binOp_eql t (fun k m k' m' e e'=>by subst e;subst e';cases hx<;>cases hy<;>first | exact h1 _ _ _ _ rfl rfl | (simp [mX] at hg;done)) (fun k m e e'=>by subst e;subst e';cases hx<;>cases hy<;>first | exact h2 _ _ rfl rfl | (simp [mX] at hg;done)) (VR.iY hx) (VR.iY hy)]
       rw[Sem.run_bind,this];rfl
     · simp at h
   · simp at h
 · rename_i h1 h2 _
   split at h
   · rename_i hg
     split at h
     · rename_i r hr
       simp at h;subst h
       refine ⟨_,.bool (!r),fun w=>?_⟩
       rw[Sem.run_bind,kC _ _ _ _ _ (yv hx hy hg)]
       have:=Ec hr hx hy w
       simp only[Result.andThen_ok]
       rw[binOp_neq t (fun k m k' m' e e'=>by subst e;subst e';cases hx<;>cases hy<;>first | exact h1 _ _ _ _ rfl rfl | (simp [mX] at hg;done)) (fun k m e e'=>by subst e;subst e';cases hx<;>cases hy<;>first | exact h2 _ _ rfl rfl | (simp [mX] at hg;done)) (VR.iY hx) (VR.iY hy)]
       rw[Sem.run_bind,this];rfl
     · simp at h
   · simp at h
 · simp at h
end Go.Ab
end
section
namespace Go.Ab
variable {E:Env}
theorem R5 {φ:Ph} {op:UnOp} {x v:AV} (h:Ys op x=some v) {x':Value} (hx:VR φ x x'):∃v',VR φ v v'∧∀w,(Op.unary op x').run E.P w= .ok v' w:=by
 unfold Ys at h
 split at h
 · cases hx;simp at h;subst h;exact ⟨_,.int _ _,fun w=>by simp [Op.unary,Op.intArith]⟩
 · cases hx;simp at h;subst h;exact ⟨_,.int _ _,fun w=>by simp [Op.unary,Op.intBits]⟩
 · cases hx;simp at h;subst h;exact ⟨_,.bool _,fun w=>by simp [Op.unary]⟩
 · simp at h
theorem sP {φ:Ph} {x:AV} {y n:Nat} (h:lV x y=some n) {x':Value} (hx:VR φ x x') {y':Nat} (hy:y≤y') (code:BoundsCode):
 (∀w,(Instr.sliceBound x' y' code).run E.P w= .ok n w)∧n≤y:=by
 unfold lV at h
 split at h
 · split at h
   · rename_i hc
     cases hx
     simp at h;subst h
     refine ⟨fun w=>?_,by omega⟩
     simp only[Instr.sliceBound,asIntOf,Sem.run_bind,Sem.run_pure,Result.andThen_ok]
     rw[if_pos (by omega)];rfl
   · simp at h
 · simp at h
def GX (φ:Ph):Option AV→Option Value→Prop
 | none,none=>True
 | some x,some y=>VR φ x y
 | _,_=>False
theorem yw (V5:Bool) (len vu:Nat) (GY Cq AL:Option Value):Instr.sliceBounds V5 len vu GY Cq AL=(do
 let m←(match AL with | some v=>Instr.sliceBound v vu (if V5 then .slice3Acap else .slice3Alen) | none=>pure vu:Sem Nat)
 let h←(match Cq,AL with | some v,some _=>Instr.sliceBound v m .slice3B | some v,none=>Instr.sliceBound v m (if V5 then .sliceAcap else .sliceAlen) | none,none=>pure len | none,some _=>stuck "Slice: max without high" :Sem Nat)
 let l←(match GY with | some v=>Instr.sliceBound v h (if AL.isSome then .slice3C else .sliceB) | none=>pure 0:Sem Nat)
 pure (l,h,m)):=by
 unfold Instr.sliceBounds
 cases AL<;>cases Cq<;>cases GY<;>rfl
theorem mZ {φ:Ph} {len cap:Nat} {lo hi mx:Option AV} {l h m:Nat} (e:jf len cap lo hi mx=some (l,h,m)) {GY Cq AL:Option Value}
 (RE:GX φ lo GY) (RG:GX φ hi Cq) (R6:GX φ mx AL) {vu:Nat} (hc:cap≤vu) (V5:Bool) (hlen:len≤cap):
 (∀w,(Instr.sliceBounds V5 len vu GY Cq AL).run E.P w= .ok (l,h,if mx.isNone then vu else m) w)∧l≤h∧h≤m∧m≤cap∧(mx=none→m=cap):=by
 unfold jf at e
 split at e
 · simp at e
 rename_i m0 Zg
 have hm:(∀w,(match AL with | some v=>Instr.sliceBound v vu (if V5 then .slice3Acap else .slice3Alen) | none=>pure vu:Sem Nat).run E.P w= .ok (if mx.isNone then vu else m0) w)∧m0≤cap∧(mx=none→m0=cap):=by
  cases mx with
  | none=>
    cases AL with
    | some _=>exact R6.elim
    | none=>simp at Zg;subst Zg;exact ⟨fun w=>rfl,Nat.le_refl _,fun _=>rfl⟩
  | some v=>
    cases AL with
    | none=>exact R6.elim
    | some v'=>
      have:=fun code=>sP (E:=E) Zg (show VR φ v v' from R6) hc code
      exact ⟨(this _).1,(this .index).2,fun e=>by simp at e⟩
 split at e
 · simp at e
 rename_i h0 hh0
 have acI:m0≤(if mx.isNone then vu else m0):=by split<;>omega
 have hh:(∀w,(match Cq,AL with | some v,some _=>Instr.sliceBound v (if mx.isNone then vu else m0) .slice3B | some v,none=>Instr.sliceBound v (if mx.isNone then vu else m0) (if V5 then .sliceAcap else .sliceAlen) | none,none=>pure len | none,some _=>stuck "Slice: max without high" :Sem Nat).run E.P w= .ok h0 w)∧h0≤m0:=by
  cases hi with
  | none=>
    cases Cq with
    | some _=>exact RG.elim
    | none=>
      cases mx with
      | some _=>simp at hh0
      | none=>
        cases AL with
        | some _=>exact R6.elim
        | none=>simp at hh0;subst hh0;exact ⟨fun w=>rfl,by have:=hm.2.2 rfl;omega⟩
  | some v=>
    cases Cq with
    | none=>exact RG.elim
    | some v'=>
      have:=fun code=>sP (E:=E) hh0 (show VR φ v v' from RG) acI code
      cases AL with
      | none=>exact ⟨(this _).1,(this .index).2⟩
      | some _=>exact ⟨(this _).1,(this .index).2⟩
 split at e
 · simp at e
 rename_i l0 V6
 simp at e
 obtain ⟨rfl,rfl,rfl⟩:=e
 have hl:(∀w,(match GY with | some v=>Instr.sliceBound v h0 (if AL.isSome then .slice3C else .sliceB) | none=>pure 0:Sem Nat).run E.P w= .ok l0 w)∧l0≤h0:=by
  cases lo with
  | none=>
    cases GY with
    | some _=>exact RE.elim
    | none=>simp at V6;subst V6;exact ⟨fun w=>rfl,by omega⟩
  | some v=>
    cases GY with
    | none=>exact RE.elim
    | some v'=>
      have:=fun code=>sP (E:=E) V6 (show VR φ v v' from RE) (Nat.le_refl _) code
      exact ⟨(this _).1,(this .index).2⟩
 refine ⟨fun w=>?_,hl.2,hh.2,hm.2.1,hm.2.2⟩
 rw[yw,Sem.run_bind,hm.1 w,Result.andThen_ok,Sem.run_bind,hh.1 w,Result.andThen_ok,Sem.run_bind,hl.1 w]
 rfl
theorem ru (b o n:Nat):(⟨b,o,none⟩:Addr).add n=⟨b,o+n,none⟩:=Addr.add_mid b o n
theorem GZ {φ:Ph} {t:TypeId} {x v:AV} {lo hi mx:Option AV} (e:dW E t x lo hi mx=some v) {x':Value} {GY Cq AL:Option Value}
 (hx:VR φ x x') (RE:GX φ lo GY) (RG:GX φ hi Cq) (R6:GX φ mx AL):∃v',VR φ v v'∧∀w,(Instr.sliceAt t x' GY Cq AL).run E.P w= .ok v' w:=by
 unfold dW at e
 split at e
 ·
  rename_i n elem i o hu
  cases hx with
  | @ptr _ l _ hφ=>
  split at e
  · rename_i l0 h0 m0 size hb hs
    simp at e;subst e
    obtain ⟨hr,h1,h2,h3,h4⟩:=mZ (E:=E) hb RE RG R6 (Nat.le_refl n) false (Nat.le_refl n)
    have hm:(if mx.isNone then n else m0)=m0:=by
     cases mx with
     | none=>simp [h4 rfl]
     | some _=>rfl
    rw[hm] at hr
    refine ⟨_,.slice (if m0=l0 then o else o+l0*size) (h0 - l0) (m0 - l0) false hφ,fun w=>?_⟩
    simp only[Instr.sliceAt,Sem.run_bind,run_underlying hu,Result.andThen_ok,Instr.sureAddr,Sem.run_pure,hr w,dz hs,fu,Bool.false_eq_true,if_false]
    by_cases Yu:m0=l0
    · simp [Yu]
    · simp only[Yu,if_false,ru];rw[Nat.add_assoc]
  · simp at e
 ·
  rename_i s hu
  split at e
  · rename_i l0 h0 m0 hb
    simp at e;subst e
    generalize hs:s=s0 at hx hb
    cases hx with
    | str s'=>
    subst hs
    have e1:s'.size=s'.data.toList.length:=by cases s';rfl
    cases AL with
    | some _=>exact R6.elim
    | none=>
    obtain ⟨hr,h1,h2,h3,h4⟩:=mZ (E:=E) (mx:=none) (AL:=none) hb RE RG trivial (Nat.le_refl _) false (Nat.le_refl _)
    refine ⟨.string (s'.extract l0 h0),?_,fun w=>?_⟩
    · have:=VR.str (φ:=φ) (s'.extract l0 h0)
      have e2:(s'.extract l0 h0).data.toList=(s'.data.toList.drop l0).take (h0 - l0):=by
       exact Lib.extract_data s' l0 h0
      rw[e2] at this;exact this
    · have Ed:=hr w
      rw[←e1] at Ed
      simp only[Instr.sliceAt,Instr.slice,Sem.run_bind,run_underlying hu,Result.andThen_ok,Option.isSome_none,Bool.false_eq_true,if_false,Ed,Sem.run_pure]
  · simp at e
 ·
  rename_i elem hu
  cases hx
  split at e
  · rename_i r size hb hs
    simp at e;subst e
    obtain ⟨l0,h0,m0⟩:=r
    obtain ⟨hr,h1,h2,h3,h4⟩:=mZ (E:=E) hb RE RG R6 (Nat.le_refl _) true (Nat.le_refl _)
    have hm:(if mx.isNone then 0 else m0)=0:=by split<;>omega
    rw[hm] at hr
    refine ⟨_,.aI,fun w=>?_⟩
    obtain rfl:l0=0:=by omega
    obtain rfl:h0=0:=by omega
    simp only[Instr.sliceAt,Instr.slice,Sem.run_bind,run_underlying hu,Result.andThen_ok,hr w,dz hs,if_true,Sem.run_pure]
  · simp at e
 · rename_i elem i o len cap op hu
   cases hx with
   | @slice _ l _ _ _ _ hφ=>
   split at e
   · rename_i Zh
     split at e
     · rename_i l0 h0 m0 size hb hs
       have V7:cap≤fu op cap l.gC:=by unfold fu;split<;>omega
       obtain ⟨hr,h1,h2,h3,h4⟩:=mZ (E:=E) hb RE RG R6 V7 true Zh
       have run:∀w,(Instr.sliceAt t (.slice (some ⟨l.dq,l.off+o,none⟩) len (fu op cap l.gC)) GY Cq AL).run E.P w=
        .ok (.slice (if (if mx.isNone then fu op cap l.gC else m0)=l0 then some ⟨l.dq,l.off+o,none⟩ else some ⟨l.dq,l.off+o+l0*size,none⟩) (h0 - l0) ((if mx.isNone then fu op cap l.gC else m0) - l0)) w:=fun w=>by
        simp only[Instr.sliceAt,Instr.slice,Sem.run_bind,run_underlying hu,Result.andThen_ok,hr w,dz hs,Sem.run_pure,Option.map_some,ru]
       split at e
       · rename_i Yu
         split at e
         · rename_i nU
           have Yv:mx.isNone=true:=by simp at nU;simpa using nU.2
           simp only[Option.some.injEq] at e;subst e
           have e0:h0 - l0=0:=by omega
           rw[e0] at run
           by_cases hq:(if mx.isNone then fu op cap l.gC else m0)=l0
           · exact ⟨_,.dG _ _,fun w=>by rw[run w,if_pos hq]⟩
           · exact ⟨_,.dG _ _,fun w=>by rw[run w,if_neg hq]⟩
         · rename_i nU
           simp at e;subst e
           have hcm:(if mx.isNone then fu op cap l.gC else m0)=m0:=by
            cases Yv:mx with
            | none=>subst Yv;simp at nU;subst nU;simp [fu,h4 rfl]
            | some _=>rfl
           rw[hcm,if_pos Yu] at run
           exact ⟨_,.slice o (h0 - l0) (m0 - l0) false hφ,run⟩
       · rename_i Yu
         simp only[Option.some.injEq] at e;subst e
         have dD:¬(if mx.isNone then fu op cap l.gC else m0)=l0:=by
          split
          · rename_i Yv;have:=h4 (by simpa using Yv);omega
          · exact Yu
         rw[if_neg dD,Nat.add_assoc] at run
         refine ⟨_,?_,run⟩
         have:=VR.slice (φ:=φ) (o+l0*size) (h0 - l0) (m0 - l0) (op&&mx.isNone) hφ
         have e2:fu (op&&mx.isNone) (m0 - l0) l.gC=(if mx.isNone then fu op cap l.gC else m0) - l0:=by
          cases Yv:mx with
          | none=>
            have h5:=h4 Yv
            cases op with
            | true=>simp [fu];omega
            | false=>simp [fu];omega
          | some _=>simp [fu]
         rw[e2] at this;exact this
     · simp at e
   · simp at e
 · simp at e
end Go.Ab
end
section
namespace Go.Ab
variable {E:Env}
theorem nX:∀(l:List Value) (k off:Nat) (C:Array Value),(l.zipIdx k).foldl (fun cs (x:Value×Nat)=>cs.setIfInBounds (off+x.2) x.1) C=iO C (off+k) l
 | [],_,_,_=>rfl
 | v::vs,k,off,C=>by
   rw[List.zipIdx_cons,List.foldl_cons,nX vs (k+1) off,iO,Nat.add_assoc]
theorem LR.setFrom {φ:Ph}:∀{vs:List AV} {oK:List Value} (_:LR φ vs oK) {cs:List AV} {C:Array Value} (_:LR φ cs C.toList) (o:Nat),LR φ (Ab.setFrom cs o vs) (iO C o oK).toList
 | [],oK,hv,cs,C,hc,o=>by rw[hv.fi];exact hc
 | v::vs,oK,hv,cs,C,hc,o=>by
   obtain ⟨y,ys,rfl,hy,rY⟩:=hv.bZ
   rw[Ab.setFrom,iO]
   refine LR.setFrom rY ?_ (o+1)
   rw[Array.toList_setIfInBounds]
   exact hc.set hy o
def PR (φ:Ph) (ps:List (Nat×AV)) (qs:List (Nat×Value)):Prop:=ps.length=qs.length∧∀(i:Nat) (x:Nat×AV) (y:Nat×Value),ps[i]? =some x→qs[i]? =some y→x.1=y.1∧VR φ x.2 y.2
theorem PR.bZ {φ:Ph} {x:Nat×AV} {xs:List (Nat×AV)} {ys:List (Nat×Value)} (h:PR φ (x::xs) ys):∃y vn,ys=y::vn∧(x.1=y.1∧VR φ x.2 y.2)∧PR φ xs vn:=by
 obtain ⟨hl,hv⟩:=h
 cases ys with
 | nil=>simp at hl
 | cons y ys=>exact ⟨y,ys,rfl,hv 0 x y (by simp) (by simp),by simpa using hl,fun i a b ha hb=>hv (i+1) a b (by simpa using ha) (by simpa using hb)⟩
theorem vv {φ:Ph} (hg:GL E φ) {ts:List AV} {a:Act} (ht:LR φ ts a.tmps.toList):∀{l:List (Nat×Operand)} {r:List (Nat×AV)} (_:iK E ts l=some r),PR φ r (l.map fun (i,x)=>(i,a.eval x))
 | [],r,h=>by simp [iK] at h;subst h;exact ⟨rfl,fun i x y hx _=>by simp at hx⟩
 | (i,o)::rest,r,h=>by
   simp only[iK] at h
   cases hv:du E ts o with
   | none=>simp [hv] at h
   | some v=>
     simp only[hv] at h
     cases hr:iK E ts rest with
     | none=>simp [hr] at h
     | some l=>
       simp only[hr,Option.some.injEq] at h;subst h
       obtain ⟨h1,h2⟩:=vv hg ht hr
       refine ⟨by simpa using h1,fun j x y hx hy=>?_⟩
       cases j with
       | zero=>simp at hx hy;subst hx;subst hy;exact ⟨rfl,lu hg ht hv⟩
       | succ j=>simp at hx;exact h2 j x y hx (by simpa using hy)
theorem ry {φ:Ph} {place:Nat→Option (Nat×Nat)}:∀{ps:List (Nat×AV)} {qs:List (Nat×Value)} (_:PR φ ps qs) {cs gz:List AV} {C:Array Value} (_:LR φ cs C.toList) (_:pC place cs ps=some gz),
 ∃C',Instr.fill place C qs=some C'∧LR φ gz C'.toList
 | [],qs,hp,cs,gz,C,hc,h=>by
   cases qs with
   | nil=>simp [pC] at h;subst h;exact ⟨C,rfl,hc⟩
   | cons q qs=>simp [PR] at hp
 | (i,v)::rest,qs,hp,cs,gz,C,hc,h=>by
   obtain ⟨⟨j,v'⟩,qs',rfl,⟨he,hv⟩,l7⟩:=hp.bZ
   simp only at he hv;subst he
   simp only[pC] at h
   simp only[Instr.fill]
   cases Ku:place i with
   | none=>simp [Ku] at h
   | some x=>
     obtain ⟨off,size⟩:=x
     simp only[Ku] at h ⊢
     split at h
     · rename_i G6
       have Nh:=hv.cells
       have hl:v'.cells.size=size:=by have:=Nh.1;simp at this;omega
       have ML:C.size=cs.length:=by have:=hc.1;simp at this;omega
       have Cn:(decide (v'.cells.size≠size)||decide (off+v'.cells.size>C.size))=false:=by
        simp only[Bool.or_eq_false_iff,decide_eq_false_iff_not];omega
       simp only[Cn,Bool.false_eq_true,if_false]
       have Zj:(v'.cells.zipIdx.foldl (fun cs (x:Value×Nat)=>cs.setIfInBounds (off+x.2) x.1) C)=iO C off v'.cells.toList:=by
        rw[←Array.foldl_toList]
        have:=nX v'.cells.toList 0 off C
        simpa using this
       rw[Zj]
       exact ry l7 (LR.setFrom Nh hc off) h
     · simp at h
theorem G7 {φ:Ph} {t:TypeId} {ps:List (Nat×AV)} {v:AV} (h:Ci E t ps=some v) {qs:Array (Nat×Value)} (hp:PR φ ps qs.toList):
 ∃v',VR φ v v'∧∀w,(Instr.build t qs).run E.P w= .ok v' w:=by
 unfold Ci at h
 split at h
 · simp at h
 rename_i z hz
 obtain ⟨z',vo,hU⟩:=fY hz
 split at h
 · rename_i fs hu
   split at h
   · simp at h
   rename_i pl Ku
   split at h
   · rename_i cs hf
     simp at h;subst h
     have V8:∀w,(fs.mapM fun f=>do pure (f.offset,←sizeOf f.type):Sem (Array (Nat×Nat))).run E.P w= .ok pl.toArray w:=by
      intro w
      have key:∀(l:List Field) (r:List (Nat×Nat)),dC (fun f=>match bT E f.type with | some n=>some (f.offset,n) | none=>none) l=some r→
       (l.mapM fun f=>do pure (f.offset,←sizeOf f.type):Sem (List (Nat×Nat))).run E.P w= .ok r w:=by
       intro l
       induction l with
       | nil=>intro r hr;simp [dC] at hr;subst hr;rfl
       | cons f l ih=>
         intro r hr
         simp only[dC] at hr
         cases hs:bT E f.type with
         | none=>simp [hs] at hr
         | some n=>
           simp only[hs] at hr
           cases hm:dC (fun f=>match bT E f.type with | some n=>some (f.offset,n) | none=>none) l with
           | none=>simp [hm] at hr
           | some ys=>
             simp only[hm,Option.some.injEq] at hr;subst hr
             simp only[List.mapM_cons,Sem.run_bind,dz hs,Result.andThen_ok,Sem.run_pure,ih ys hm]
      have:=key fs.toList pl Ku
      have hh:(fs.mapM fun f=>do pure (f.offset,←sizeOf f.type):Sem (Array (Nat×Nat)))=(do pure (←(fs.toList.mapM fun f=>do pure (f.offset,←sizeOf f.type):Sem (List (Nat×Nat)))).toArray):=by
       rw[Array.mapM_eq_mapM_toList];rfl
      rw[hh,Sem.run_bind,this];rfl
     obtain ⟨C',wu,yx⟩:=ry (place:=(pl[·]?)) hp (cs:=z.cells) (C:=z'.cells) (vo φ).cells hf
     refine ⟨.agg C',by have:=VR.Kq yx;simpa using this,fun w=>?_⟩
     simp only[Instr.build,Sem.run_bind,hU,Result.andThen_ok,run_underlying hu,V8 w]
     simp [wu]
   · simp at h
 · rename_i n elem hu
   split at h
   · simp at h
   rename_i n hn
   split at h
   · rename_i cs hf
     simp at h;subst h
     obtain ⟨C',wu,yx⟩:=ry (place:=fun i=>some (i*n,n)) hp (cs:=z.cells) (C:=z'.cells) (vo φ).cells hf
     refine ⟨.agg C',by have:=VR.Kq yx;simpa using this,fun w=>?_⟩
     simp [Instr.build,Sem.run_bind,hU,run_underlying hu,dz hn,wu]
   · simp at h
 · simp at h
theorem Ee {φ:Ph}:∀{l:List AV} {x v:AV} (_:GQ x l=some v) {x':Value} (_:VR φ x x') {l':List Value} (_:LR φ l l'),∃v',VR φ v v'∧∀w,(l'.foldlM Builtin.max2 x').run E.P w= .ok v' w
 | [],x,v,h,x',hx,l',hl=>by
   rw[hl.fi]
   cases x<;>simp [GQ] at h
   subst h;exact ⟨x',hx,fun w=>rfl⟩
 | y::ys,x,v,h,x',hx,l',hl=>by
   obtain ⟨y',vn,rfl,hy,rY⟩:=hl.bZ
   cases x<;>(try (simp [GQ] at h;done))
   cases y<;>(try (simp [GQ] at h;done))
   cases hx;cases hy
   simp only[GQ] at h
   obtain ⟨v',hv,hr⟩:=Ee h (.int _ _) rY
   refine ⟨v',hv,fun w=>?_⟩
   simp only[List.foldlM_cons,Builtin.max2,Sem.run_bind,Sem.run_pure,Result.andThen_ok,hr w]
theorem Ef {φ:Ph}:∀{l:List AV} {x v:AV} (_:GR x l=some v) {x':Value} (_:VR φ x x') {l':List Value} (_:LR φ l l'),∃v',VR φ v v'∧∀w,(l'.foldlM Builtin.min2 x').run E.P w= .ok v' w
 | [],x,v,h,x',hx,l',hl=>by
   rw[hl.fi]
   cases x<;>simp [GR] at h
   subst h;exact ⟨x',hx,fun w=>rfl⟩
 | y::ys,x,v,h,x',hx,l',hl=>by
   obtain ⟨y',vn,rfl,hy,rY⟩:=hl.bZ
   cases x<;>(try (simp [GR] at h;done))
   cases y<;>(try (simp [GR] at h;done))
   cases hx;cases hy
   simp only[GR] at h
   obtain ⟨v',hv,hr⟩:=Ef h (.int _ _) rY
   refine ⟨v',hv,fun w=>?_⟩
   simp only[List.foldlM_cons,Builtin.min2,Sem.run_bind,Sem.run_pure,Result.andThen_ok,hr w]
theorem map_toArray (f:Operand→Value) (l:Array Operand):l.map f=(l.toList.map f).toArray:=by apply Array.ext';simp
def UO (E:Env):Prop:=∀f e,E.kB f=some e→∀vs r,e vs=some r→∀φ (oK:List Value),LR φ vs oK→
 ∃r',VR φ r r'∧∀w,(callFunc f oK.toArray).run E.P w= .ok (.value r') w
theorem eg {s:Sem Value} {v:Value} {P:Program} {w w':World} (h:s.run P w= .ok v w'):(do pure (.value (←s)):Sem Next).run P w= .ok (.value v) w':=by
 rw[Sem.run_bind,h];rfl
theorem Cr {φ:Ph} (hg:GL E φ) {ts:List AV} {a:Act} (ht:LR φ ts a.tmps.toList) {o:Option Operand} {r:Option AV} (h:kJ E ts o=some r):GX φ r (o.map a.eval):=by
 cases o with
 | none=>simp [kJ] at h;subst h;trivial
 | some o=>
   simp only[kJ] at h
   split at h
   · rename_i v hv;simp at h;subst h;exact lu hg ht hv
   · simp at h
theorem qe {P:Program} {t:TypeId} {d:TypeDesc} (hu:P.underlying t=some d) (hd:∀m,d= .interface m→False) (v:Value) (xT:TypeId) (ok:Bool) (w:World):
 (Instr.typeAssert (.iface t v) xT t ok).run P w= .ok (if ok then .tuple #[v,.bool true] else v) w:=by
 rw[Instr.typeAssert,Sem.run_bind,run_underlying hu]
 cases d<;>first | (exact (hd _ rfl).elim) | (simp;done)
theorem xB {P:Program} {t u:TypeId} {d:TypeDesc} (hu:P.underlying t=some d) (hd:∀m,d= .interface m→False) (v:Value) (xT:TypeId) (dD:u≠t) {z:Value} (w:World) (hz:(zeroValue t).run P w= .ok z w):
 (Instr.typeAssert (.iface u v) xT t true).run P w= .ok (.tuple #[z,.bool false]) w:=by
 rw[Instr.typeAssert,Sem.run_bind,run_underlying hu]
 cases d<;>first | (exact (hd _ rfl).elim) | (simp [dD,hz];done)
theorem yz {P:Program} {t:TypeId} {d:TypeDesc} (hu:P.underlying t=some d) (hd:∀m,d= .interface m→False) (xT:TypeId) {z:Value} (w:World) (hz:(zeroValue t).run P w= .ok z w):
 (Instr.typeAssert .nilIface xT t true).run P w= .ok (.tuple #[z,.bool false]) w:=by
 rw[Instr.typeAssert,Sem.run_bind,run_underlying hu]
 cases d<;>first | (exact (hd _ rfl).elim) | (simp [hz];done)
set_option maxHeartbeats 1000000 in
theorem wv (Zk:UO E) {φ:Ph} (hg:GL E φ) {ts:List AV} {a:Act} (ht:LR φ ts a.tmps.toList) {o:Oper} {v:AV} (h:bk E ts o.op=some v):
 ∃v',VR φ v v'∧∀w,(execOp a.eval o).run E.P w= .ok (.value v') w:=by
 have ev:∀{x:Operand} {v:AV},du E ts x=some v→VR φ v (a.eval x):=fun h=>lu hg ht h
 unfold execOp
 generalize o.op=op at h ⊢
 unfold bk at h
 split at h
 · exact ⟨_,ev h,fun w=>rfl⟩
 · exact ⟨_,ev h,fun w=>rfl⟩
 ·
  split at h
  · rename_i hc
    have:=ev hc
    generalize jt:a.eval _=cv at this
    cases this
    exact ⟨_,ev h,fun w=>by simp [jt,asBool]⟩
  · rename_i hc
    have:=ev hc
    generalize jt:a.eval _=cv at this
    cases this
    exact ⟨_,ev h,fun w=>by simp [jt,asBool]⟩
  · simp at h
 ·
  rename_i t parts
  split at h
  · rename_i ps MN
    have hp:=vv hg ht MN
    obtain ⟨v',hv,hr⟩:=G7 (φ:=φ) h (qs:=parts.map fun (i,x)=>(i,a.eval x)) (by simpa using hp)
    exact ⟨v',hv,fun w=>eg (hr w)⟩
  · simp at h
 ·
  split at h<;>(try (simp at h;done))
  all_goals
   rename_i hx
   have:=ev hx
   generalize jt:a.eval _=cv at this
   cases this
   simp only[Option.some.injEq] at h;subst h
   first
    | exact ⟨_,.ptr _ ‹_›,fun w=>by simp [jt]⟩
    | exact ⟨_,.map ‹_›,fun w=>by simp [jt]⟩
    | exact ⟨_,.slice _ _ _ _ ‹_›,fun w=>by simp [jt]⟩
    | exact ⟨_,.func _ _ _ _ _ ‹_› ‹_› ‹_› ‹_›,fun w=>by simp [jt]⟩
 ·
  split at h
  · rename_i hx hy
    obtain ⟨v',hv,hr⟩:=Ng h (ev hx) (ev hy)
    exact ⟨v',hv,fun w=>eg (hr w)⟩
  · simp at h
 ·
  split at h
  · rename_i hx
    obtain ⟨v',hv,hr⟩:=R5 (E:=E) h (ev hx)
    exact ⟨v',hv,fun w=>eg (hr w)⟩
  · simp at h
 ·
  split at h
  · rename_i hs hd hx
    have:=ev hx
    generalize jt:a.eval _=cv at this
    cases this
    simp at h;subst h
    refine ⟨_,.int _ _,fun w=>eg ?_⟩
    simp [jt,convert,run_underlying hs,run_underlying hd,Conv.intToInt]
  · rename_i d s hs hd hx
    have:=ev hx
    generalize jt:a.eval _=cv at this
    simp at h;subst h
    generalize G8:s=s0 at this
    cases this
    subst G8
    refine ⟨_,.str _,fun w=>eg ?_⟩
    simp [jt,convert,run_underlying hs,run_underlying hd]
  · rename_i d k n hs hd hx
    have:=ev hx
    generalize jt:a.eval _=cv at this
    cases this
    unfold IS at h
    split at h
    · rename_i h0
      simp at h;subst h
      have he:Utf8.encode n=⟨#[UInt8.ofNat n.toNat]⟩:=by
       have hv:Utf8.valid n=true:=by simp [Utf8.valid];omega
       have h1:n.toNat<0x80:=by omega
       simp [Utf8.encode,hv,h1]
      refine ⟨.string ⟨#[UInt8.ofNat n.toNat]⟩,.str ⟨#[UInt8.ofNat n.toNat]⟩,fun w=>eg ?_⟩
      rw[←he]
      cases d<;>simp [jt,convert,run_underlying hs,run_underlying hd,Conv.intToString]
    · simp at h
  · simp at h
 ·
  split at h
  · simp at h
  · rename_i d v0 hn hu hx
    simp at h;subst h
    refine ⟨_,.iface _ _ _ (ev hx),fun w=>eg ?_⟩
    rw[Instr.makeInterface,Sem.run_bind,run_underlying hu]
    cases d<;>first | (exact (hn _ rfl).elim) | rfl
  · simp at h
 ·
  rename_i f first captured
  split at h
  · rename_i ha hb
    simp at h;subst h
    have h1:=fX hg ht ha
    have h2:=fX hg ht hb
    refine ⟨.func (.func f) (first.map a.eval) (captured.map a.eval),?_,fun w=>eg rfl⟩
    rw[map_toArray,map_toArray]
    exact VR.M9 f h1 h2
  · simp at h
 ·
  split at h
  · rename_i hx hl hh hm
    obtain ⟨v',hv,hr⟩:=GZ h (ev hx) (Cr hg ht hl) (Cr hg ht hh) (Cr hg ht hm)
    exact ⟨v',hv,fun w=>eg (hr w)⟩
  · simp at h
 ·
  split at h
  · rename_i fd i o0 hf hx
    split at h
    · rename_i n hn
      split at h
      · simp at h
      · rename_i IX
        simp at h;subst h
        have:=ev hx
        generalize jt:a.eval _=cv at this
        cases this with
        | @ptr _ l _ hφ=>
        refine ⟨_,.ptr _ hφ,fun w=>eg ?_⟩
        unfold kK at hf
        split at hf
        · rename_i fs hu
          simp [jt,Instr.fieldAt,run_underlying hu,hf,Instr.sureAddr,fieldPlace,dz hn,IX,ru,Nat.add_assoc]
        · simp at hf
    · simp at h
  · simp at h
 ·
  split at h
  · rename_i fd cs hf hx
    have:=ev hx
    generalize jt:a.eval _=cv at this
    obtain ⟨gz,rfl,yx⟩:=this.iz
    obtain ⟨v',hv,hr⟩:=lT yx h
    refine ⟨v',hv,fun w=>eg ?_⟩
    unfold kK at hf
    split at hf
    · rename_i fs hu
      have:=hr w
      simp [jt,Instr.field,run_underlying hu,hf,asAgg] at this ⊢
      exact this
    · simp at hf
  · simp at h
 ·
  split at h
  · rename_i len elem i o0 k n hu hx hi
    split at h
    · rename_i size hs
      split at h
      · rename_i hb
        simp at h;subst h
        have h1:=ev hx
        have h2:=ev hi
        generalize jt:a.eval _=cv at h1
        generalize V9:a.eval _=cw at h2
        cases h1 with
        | @ptr _ l _ hφ=>
        cases h2
        refine ⟨_,.ptr _ hφ,fun w=>eg ?_⟩
        simp [jt,V9,Instr.indexAt,asIntOf,run_underlying hu,Instr.sureAddr,hb,dz hs,ru,Nat.add_assoc]
      · simp at h
    · simp at h
  · rename_i elem i o0 len cap op k n hu hx hi
    split at h
    · rename_i size hs
      split at h
      · rename_i hb
        simp at h;subst h
        have h1:=ev hx
        have h2:=ev hi
        generalize jt:a.eval _=cv at h1
        generalize V9:a.eval _=cw at h2
        cases h1 with
        | @slice _ l _ _ _ _ hφ=>
        cases h2
        refine ⟨_,.ptr _ hφ,fun w=>eg ?_⟩
        simp [jt,V9,Instr.indexAt,asIntOf,run_underlying hu,hb,dz hs,ru,Nat.add_assoc]
      · simp at h
    · simp at h
  · simp at h
 ·
  split at h
  · rename_i len elem cs k n hu hx hi
    split at h
    · rename_i size hs
      split at h
      · rename_i hb
        have h1:=ev hx
        have h2:=ev hi
        generalize jt:a.eval _=cv at h1
        generalize V9:a.eval _=cw at h2
        obtain ⟨gz,rfl,yx⟩:=h1.iz
        cases h2
        obtain ⟨v',hv,hr⟩:=lT yx h
        refine ⟨v',hv,fun w=>eg ?_⟩
        have:=hr w
        simp [jt,V9,Instr.index,asIntOf,run_underlying hu,hb,dz hs] at this ⊢
        exact this
      · simp at h
    · simp at h
  · rename_i s k n hu hx hi
    split at h
    · rename_i hn
      split at h
      · rename_i b hb
        simp at h;subst h
        have h1:=ev hx
        have h2:=ev hi
        generalize jt:a.eval _=cv at h1
        generalize V9:a.eval _=cw at h2
        generalize G8:s=s0 at h1
        cases h1 with
        | str s'=>
        subst G8
        cases h2
        refine ⟨_,.int _ _,fun w=>eg ?_⟩
        have RH:s'[n.toNat]? =some b:=by
         have:s'.data[n.toNat]? =some b:=by simpa using hb
         rw[←this];rfl
        simp [jt,V9,Instr.index,asIntOf,run_underlying hu,hn,RH]
      · simp at h
    · simp at h
  · simp at h
 ·
  split at h
  · rename_i vs hx
    have h1:=ev hx
    generalize jt:a.eval _=cv at h1
    obtain ⟨oK,rfl,yx⟩:=h1.Bg
    obtain ⟨y,hy,hv⟩:=yx.get h
    refine ⟨y,hv,fun w=>eg ?_⟩
    simp at hy
    simp [jt,Instr.extract,hy]
  · simp at h
 ·
  split at h
  · simp at h
  · rename_i d t v0 hn hu hx
    have h1:=ev hx
    generalize jt:a.eval _=cv at h1
    cases h1 with
    | iface _ _ v1 hv1=>
    split at h
    · rename_i hta
      subst hta
      simp at h;subst h
      split
      · rename_i iW
        refine ⟨.tuple #[v1,.bool true],VR.tuple' (gz:=[v1,.bool true]) (.cons hv1 (.cons (.bool true) (.nil φ))),fun w=>eg ?_⟩
        rw[jt,qe hu hn,iW];rfl
      · rename_i iW
        refine ⟨v1,hv1,fun w=>eg ?_⟩
        rw[jt,qe hu hn];simp [iW]
    · rename_i hta
      split at h
      · rename_i iW
        split at h
        · rename_i z hz
          simp at h;subst h
          obtain ⟨z',vo,hU⟩:=fY hz
          refine ⟨.tuple #[z',.bool false],VR.tuple' (gz:=[z',.bool false]) (.cons (vo φ) (.cons (.bool false) (.nil φ))),fun w=>eg ?_⟩
          rw[jt,iW];exact xB hu hn _ _ hta w (hU w)
        · simp at h
      · simp at h
  · rename_i d hn hu hx
    have h1:=ev hx
    generalize jt:a.eval _=cv at h1
    cases h1
    split at h
    · rename_i iW
      split at h
      · rename_i z hz
        simp at h;subst h
        obtain ⟨z',vo,hU⟩:=fY hz
        refine ⟨.tuple #[z',.bool false],VR.tuple' (gz:=[z',.bool false]) (.cons (vo φ) (.cons (.bool false) (.nil φ))),fun w=>eg ?_⟩
        rw[jt,iW];exact yz hu hn _ w (hU w)
      · simp at h
    · simp at h
  · simp at h
 ·
  split at h
  · rename_i t v0 MO Eg
    have hl:=fX hg ht Eg
    obtain ⟨y,ys,rY,hy,Cs⟩:=hl.bZ
    rw[Cs.fi] at rY
    have yA:∀(args:Array Operand),args.toList.map a.eval=[y]→args.map a.eval= #[y]:=fun args e=>by rw[map_toArray,e]
    have h0:=yA _ rY
    split at h<;>(try (simp at h;done))
    all_goals
     rename_i hu
     simp only[Option.some.injEq] at h;subst h
    · generalize G8:AV.str _=s0 at hy
      cases hy<;>cases G8
      rename_i s'
      refine ⟨_,.int _ _,fun w=>?_⟩
      simp [resolve,invoke,builtin,h0,Builtin.len_,MO,run_underlying hu,goInt]
      try rfl
    · refine ⟨_,.int _ _,fun w=>?_⟩
      simp [resolve,invoke,builtin,h0,Builtin.len_,MO,run_underlying hu,goInt]
    · cases hy
      refine ⟨_,.int _ _,fun w=>?_⟩
      simp [resolve,invoke,builtin,h0,Builtin.len_,MO,run_underlying hu,goInt]
    · cases hy
      refine ⟨_,.int _ _,fun w=>?_⟩
      simp [resolve,invoke,builtin,h0,Builtin.len_,MO,run_underlying hu,goInt]
    · cases hy
      refine ⟨_,.int _ _,fun w=>?_⟩
      simp [resolve,invoke,builtin,h0,Builtin.len_,MO,run_underlying hu,goInt]
    · cases hy
      refine ⟨_,.int _ _,fun w=>?_⟩
      simp [resolve,invoke,builtin,h0,Builtin.len_,MO,run_underlying hu,goInt]
  · simp at h
 ·
  split at h
  · rename_i t v0 MO Eg
    have hl:=fX hg ht Eg
    obtain ⟨y,ys,rY,hy,Cs⟩:=hl.bZ
    rw[Cs.fi] at rY
    have yA:∀(args:Array Operand),args.toList.map a.eval=[y]→args.map a.eval= #[y]:=fun args e=>by rw[map_toArray,e]
    have h0:=yA _ rY
    split at h<;>(try (simp at h;done))
    all_goals
     rename_i hu
     simp only[Option.some.injEq] at h;subst h
    · refine ⟨_,.int _ _,fun w=>?_⟩
      simp [resolve,invoke,builtin,h0,Builtin.cap_,MO,run_underlying hu,goInt]
    · cases hy
      refine ⟨_,.int _ _,fun w=>?_⟩
      simp [resolve,invoke,builtin,h0,Builtin.cap_,MO,run_underlying hu,goInt]
    · cases hy
      refine ⟨_,.int _ _,fun w=>?_⟩
      simp [resolve,invoke,builtin,h0,Builtin.cap_,MO,run_underlying hu,goInt,fu]
  · simp at h
 ·
  rename_i args _
  split at h
  · rename_i x rest Eg
    have hl:=fX hg ht Eg
    obtain ⟨y,ys,rY,hy,l7⟩:=hl.bZ
    obtain ⟨v',hv,hr⟩:=Ee (E:=E) h hy l7
    refine ⟨v',hv,fun w=>?_⟩
    have h0:args.map a.eval=(y::ys).toArray:=by rw[map_toArray,rY]
    have:=hr w
    simp [resolve,invoke,builtin,h0,Builtin.max_,this]
  · simp at h
 ·
  rename_i args _
  split at h
  · rename_i x rest Eg
    have hl:=fX hg ht Eg
    obtain ⟨y,ys,rY,hy,l7⟩:=hl.bZ
    obtain ⟨v',hv,hr⟩:=Ef (E:=E) h hy l7
    refine ⟨v',hv,fun w=>?_⟩
    have h0:args.map a.eval=(y::ys).toArray:=by rw[map_toArray,rY]
    have:=hr w
    simp [resolve,invoke,builtin,h0,Builtin.min_,this]
  · simp at h
 ·
  rename_i f args _
  split at h
  · rename_i e vs he Eg
    have hl:=fX hg ht Eg
    obtain ⟨r',hr,eR⟩:=Zk f e he vs v h φ _ hl
    refine ⟨r',hr,fun w=>?_⟩
    have:=eR w
    rw[←map_toArray] at this
    simpa [resolve,Deferred.ofValue,invoke,Act.eval] using this
  · simp at h
 · simp at h
end Go.Ab
end
section
namespace Go.Ab
variable {E:Env}
theorem Ct {P:Program} {t:TypeId} {k:IntKind} (hu:P.underlying t=some (.int k)) (b:Bool) (n:Nat) (v:Value) (w:World):
 (Instr.checkKey b (n+1) t v).run P w= .ok () w:=by
 unfold Instr.checkKey
 rw[Sem.run_bind,run_underlying hu]
 rfl
theorem Cu {P:Program} {t:TypeId} (hu:P.underlying t=some .string) (b:Bool) (n:Nat) (v:Value) (w:World):
 (Instr.checkKey b (n+1) t v).run P w= .ok () w:=by
 unfold Instr.checkKey
 rw[Sem.run_bind,run_underlying hu]
 rfl
theorem m_ {φ:Ph} {t:TypeId} {d:TypeDesc} {k:AV} (hu:E.P.underlying t=some d) (hk:iu E (some d) k=true) {k':Value} (h:VR φ k k') (b:Bool) (n:Nat) (w:World):
 (Instr.checkKey b (n+2) t k').run E.P w= .ok () w:=by
 unfold iu at hk
 split at hk
 · rename_i fs xs hd
   cases hd
   obtain ⟨xW,rfl,AD⟩:=h.iz
   unfold Instr.checkKey
   rw[Sem.run_bind,run_underlying hu]
   simp only[Result.andThen_ok]
   have key:∀l:List Field,(l.all fun f=>match E.P.underlying f.type,fU E f.type xs f.offset with
    | some (.int _),some (.int _ _)=>true
    | some .string,some (.str _)=>true
    | _,_=>false)=true→
    (forIn (m:=Sem) l PUnit.unit fun f (_:PUnit)=>if f.name≠ "_" then (do let x←part f.type xW f.offset;Instr.checkKey b (n+1) f.type x;pure (ForInStep.yield PUnit.unit)) else pure (ForInStep.yield PUnit.unit)).run E.P w= .ok PUnit.unit w:=by
    intro l
    induction l with
    | nil=>intro _;rfl
    | cons f l ih=>
      intro ha
      rw[List.all_cons,Bool.and_eq_true] at ha
      obtain ⟨hf,hl⟩:=ha
      have h2:=ih hl
      split at hf
      · rename_i ki kj z e1 e2
        obtain ⟨v',_,hr⟩:=lT AD e2
        rw[Array.toArray_toList] at hr
        simp only[List.forIn_cons,Sem.run_bind]
        split
        · simp only[Sem.run_bind,hr,Result.andThen_ok,Ct e1,Sem.run_pure,h2]
        · simp only[Sem.run_pure,Result.andThen_ok,h2]
      · rename_i z e1 e2
        obtain ⟨v',_,hr⟩:=lT AD e2
        rw[Array.toArray_toList] at hr
        simp only[List.forIn_cons,Sem.run_bind]
        split
        · simp only[Sem.run_bind,hr,Result.andThen_ok,Cu e1,Sem.run_pure,h2]
        · simp only[Sem.run_pure,Result.andThen_ok,h2]
      · cases hf
   have:=key fs.toList hk
   rw[Array.forIn_toList] at this
   first | exact this | (simp only[Sem.run_bind,this];rfl)
 · cases hk
theorem vw {φ:Ph}:∀{xs ys:List AV} {xW vn:List Value},lW xs ys=true→LR φ xs xW→LR φ ys vn→vn=xW∧(vn.zip xW).all (fun (x,y)=>Instr.sameBits 9999 x y)=true
 | [],[],xW,vn,_,h,h'=>by rw[h.fi,h'.fi];exact ⟨rfl,rfl⟩
 | .int k a::xs,.int j b::ys,xW,vn,e,h,h'=>by
   obtain ⟨x,xs2,rfl,hx,AD⟩:=h.bZ
   obtain ⟨y,ys2,rfl,hy,rY⟩:=h'.bZ
   simp only[lW,Bool.and_eq_true,decide_eq_true_eq] at e
   obtain ⟨⟨rfl,rfl⟩,e⟩:=e
   cases hx;cases hy
   obtain ⟨h1,h2⟩:=vw e AD rY
   subst h1
   refine ⟨rfl,?_⟩
   rw[List.zip_cons_cons,List.all_cons,h2,Bool.and_true]
   simp [Instr.sameBits]
 | .str a::xs,.str b::ys,xW,vn,e,h,h'=>by
   obtain ⟨x,xs2,rfl,hx,AD⟩:=h.bZ
   obtain ⟨y,ys2,rfl,hy,rY⟩:=h'.bZ
   simp only[lW,Bool.and_eq_true,beq_iff_eq] at e
   obtain ⟨rfl,e⟩:=e
   obtain ⟨h1,h2⟩:=vw e AD rY
   subst h1
   generalize hq:AV.str a=q at hx hy
   have hxy:y=x:=by
    cases hx with
    | str s1=>
      generalize hr:AV.str s1.data.toList=r at hy
      cases hy with
      | str s2=>
        injection hr with hr
        have:s1.data=s2.data:=Array.toList_inj.1 hr
        cases s1;cases s2;cases this;rfl
      | _=>cases hr
    | _=>cases hq
   subst hxy
   refine ⟨rfl,?_⟩
   rw[List.zip_cons_cons,List.all_cons,h2,Bool.and_true]
   cases hx with
   | str s1=>
     show (s1==s1)=true
     cases s1 with
     | mk d=>show (d==d)=true;simp
   | _=>cases hq
theorem Cv {φ:Ph} {xs ys:List AV} (e:lW xs ys=true) {k' j':Value} (h:VR φ (.agg xs) k') (h':VR φ (.agg ys) j'):Instr.sameBits 10000 j' k'=true∧j'=k':=by
 obtain ⟨a,rfl,ha⟩:=h.iz
 obtain ⟨b,rfl,hb⟩:=h'.iz
 obtain ⟨h1,h2⟩:=vw e ha hb
 have hab:b=a:=by cases b;cases a;simp at h1;subst h1;rfl
 subst hab
 refine ⟨?_,rfl⟩
 rw[Instr.sameBits]
 simp only[beq_self_eq_true,Bool.true_and]
 exact h2
def R7 (φ:Ph) (k j:AV):Prop:=∀{k' j':Value},VR φ k k'→VR φ j j'→Instr.sameBits 10000 j' k'=true∧j'=k'
theorem kl {φ:Ph} {key:TypeId} {k:AV} {k':Value} (h:VR φ k k'):∀{es:List fO} {fj:List MapEntry} (_:D' φ es fj) {i:Nat} {r:Option (Nat×AV)} (_:findD E key k es i=some r),
 ∃r',(∀w,(Instr.findAsking key k' fj i).run E.P w= .ok r' w)∧(match r,r' with | none,none=>True | some (j,v),some (j',v')=>j=j'∧VR φ v v'∧i≤j∧∃e,es[j - i]? =some e∧R7 φ k e.key | _,_=>False)
 | [],fj,he,i,r,e=>by
   cases fj with
   | nil=>simp [findD] at e;subst e;exact ⟨none,fun w=>rfl,trivial⟩
   | cons _ _=>simp [D'] at he
 | x::es,fj,he,i,r,e=>by
   obtain ⟨hl,hv⟩:=he
   cases fj with
   | nil=>simp at hl
   | cons y ys=>
     have hx:=hv 0 x y (by simp) (by simp)
     simp only[findD] at e
     split at e
     · rename_i heq
       split at e
       · rename_i zs hz _
         split at e
         · rename_i hs
           simp at e;subst e
           refine ⟨some (i,y.val),fun w=>?_,rfl,hx.val,Nat.le_refl _,x,by simp,?_⟩
           · have q:=lZ 16 9984 key _ _ true _ _ heq h hx.key w
             simp only[Instr.findAsking,Sem.run_bind,Op.equal]
             rw[show Op.maxDepth=9984+16 from rfl,q]
             rfl
           · intro a b ha hb
             rw[hz] at hb
             exact Cv hs ha hb
         · cases e
       · cases e
     · rename_i heq
       obtain ⟨r',h1,h2⟩:=kl h (es:=es) (fj:=ys) ⟨by simpa using hl,fun i a b p q=>hv (i+1) a b (by simpa using p) (by simpa using q)⟩ e
       refine ⟨r',fun w=>?_,?_⟩
       · have q:=lZ 16 9984 key _ _ false _ _ heq h hx.key w
         simp only[Instr.findAsking,Sem.run_bind,Op.equal]
         rw[show Op.maxDepth=9984+16 from rfl,q]
         exact h1 w
       · cases r with
         | none=>cases r' with
           | none=>trivial
           | some _=>exact h2
         | some p=>
           obtain ⟨j,v⟩:=p
           cases r' with
           | none=>exact h2
           | some q=>
             obtain ⟨j',v'⟩:=q
             obtain ⟨h3,h4,h5,e',h6,h7⟩:=h2
             refine ⟨h3,h4,by omega,e',?_,h7⟩
             rw[show j - i=(j -(i+1))+1 by omega];simpa using h6
     · cases e
theorem iA {φ:Ph} {key:TypeId} {d:TypeDesc} {k:AV} (hd:E.P.underlying key=some d) (hk:iu E (some d) k=true) {k':Value} (h:VR φ k k') {fj:List MapEntry} {r':Option (Nat×Value)} {w:World} (hr:(Instr.findAsking key k' fj 0).run E.P w= .ok r' w):
 (Instr.findKey key k' fj).run E.P w= .ok r' w:=by
 unfold iu at hk
 split at hk
 · rename_i fs xs hdd
   cases hdd
   obtain ⟨xW,rfl,AD⟩:=h.iz
   rw[Instr.findKey,Sem.run_bind,run_underlying hd]
   simp only[Result.andThen_ok]
   cases fj with
   | nil=>exact hr
   | cons y ys=>
     have:Instr.findNow (.struct fs) (.agg xW) (y::ys) 0=none:=rfl
     rw[this]
     exact hr
 · cases hk
end Go.Ab
end
section
namespace Go.Ab
variable {E:Env}
theorem OK.cells {φ:Ph} {h:au} {w:World} (ok:OK E φ h w) {i:Nat} {cs:List AV} {e:TypeId} {ro:Bool} (hg:h.get i=some (.cells cs e ro)) {l:Loc} (hl:φ i=some l):
 ∃C e' lo hi,w.heap[l.dq]? =some (.cells C e' (lo,hi))∧CS E φ cs e ro l C e' lo hi:=by
 exact ok.live i _ l hg hl
theorem Bk {φ:Ph} {h:au} {w:World} (ok:OK E φ h w) {t:TypeId} {av v:AV} {v':Value} (hv:VR φ av v') (e:bw E h t av=some v):
 ∃x',VR φ v x'∧∀w',w'.heap=w.heap→(Instr.loadAt t v').run E.P w'= .ok x' w':=by
 unfold bw at e
 split at e
 · rename_i i o
   cases hv with
   | @ptr _ l _ hφ=>
   split at e
   · rename_i cs el ro hg
     obtain ⟨C,e',lo,hi,hb,hc⟩:=ok.cells hg hφ
     unfold fU at e
     split at e
     · rename_i ha
       split at e
       · rename_i n hn
         split at e
         · rename_i hle
           simp at e;subst e
           obtain ⟨vs,Zm,AM,yx⟩:=hc.range o n hle
           refine ⟨.agg vs.toArray,VR.Kq yx,fun w' Zo=>?_⟩
           rw[←Zo] at hb
           have yB:=lJ (P:=E.P) hb (l.off+o) vs AM
           rw[Zm] at yB
           simp only[Instr.loadAt,Instr.sureAddr,Sem.run_bind,Sem.run_pure,Result.andThen_ok,loadVar,oI ha,if_true,dz hn,yB]
         · simp at e
       · simp at e
     · rename_i ha
       obtain ⟨y,hy,hr⟩:=hc.val o v e
       refine ⟨y,hr,fun w' Zo=>?_⟩
       rw[←Zo] at hb
       simp only[Instr.loadAt,Instr.sureAddr,Sem.run_bind,Sem.run_pure,Result.andThen_ok,loadVar,oI ha,Bool.false_eq_true,if_false,run_load,cell_of_heap hb,hy]
     · simp at e
   · simp at e
 · simp at e
theorem Eh {P:Program} (l:List Int):∀(vs:List Value) (acc:ByteArray) (w:World),vs=l.map (fun n=>Value.int .u8 n)→
 (forIn vs acc (fun c s=>(match c with | .int .u8 n=>do pure (ForInStep.yield (s.push (UInt8.ofNat n.toNat))) | _=>do stuck "bytesToString: byte expected";pure (ForInStep.yield s):Sem (ForInStep ByteArray)))).run P w= .ok ⟨(acc.data.toList++l.map (fun n=>UInt8.ofNat n.toNat)).toArray⟩ w:=by
 induction l with
 | nil=>intro vs acc w h;simp at h;subst h;simp [List.forIn_nil]
 | cons b l ih=>
   intro vs acc w h
   cases vs with
   | nil=>simp at h
   | cons v vs=>
     simp at h
     obtain ⟨rfl,Eg⟩:=h
     simp only[List.forIn_cons,Sem.run_bind,Sem.run_pure,Result.andThen_ok]
     rw[ih vs _ w Eg]
     simp [ByteArray.push]
theorem Bl {φ:Ph} {d:TypeDesc} {k j:AV} {r:Bool} (hk:gH (some d) k=true) (e:Bc k j=some r) {k' j':Value} (h:VR φ k k') (h':VR φ j j'):Instr.sameNow d k' j'=some r:=by
 unfold Bc at e
 split at e
 · generalize hs:AV.str _=s at h
   generalize oJ:AV.str _=s' at h'
   cases h<;>cases hs
   cases h'<;>cases oJ
   simp at e;subst e
   cases d<;>simp [gH] at hk
   rename_i s s'
   simp only[Instr.sameNow]
   congr 1
 · cases h;cases h'
   split at e
   · rename_i vp
     simp at e;subst e;subst vp
     cases d<;>simp [gH] at hk
     simp [Instr.sameNow]
   · simp at e
 · cases h;cases h'
   simp at e;subst e
   cases d<;>simp [gH] at hk
   simp [Instr.sameNow]
 · simp at e
theorem nY {φ:Ph} {d:TypeDesc} {k:AV} {k':Value} (hk:gH (some d) k=true) (h:VR φ k k'):∀{es:List fO} {fj:List MapEntry} (_:D' φ es fj) {i:Nat} {r:Option (Nat×AV)} (_:pX k es i=some r),
 ∃r',Instr.findNow d k' fj i=some r'∧(match r,r' with | none,none=>True | some (j,v),some (j',v')=>j=j'∧VR φ v v'∧i≤j∧∃e,es[j - i]? =some e∧Bc k e.key=some true | _,_=>False)
 | [],fj,he,i,r,e=>by
   cases fj with
   | nil=>simp [pX] at e;subst e;exact ⟨none,rfl,trivial⟩
   | cons _ _=>simp [D'] at he
 | x::es,fj,he,i,r,e=>by
   obtain ⟨hl,hv⟩:=he
   cases fj with
   | nil=>simp at hl
   | cons y ys=>
     have hx:=hv 0 x y (by simp) (by simp)
     simp only[pX] at e
     split at e
     · rename_i heq
       simp at e;subst e
       refine ⟨some (i,y.val),?_,rfl,hx.val,Nat.le_refl _,x,by simp,heq⟩
       simp [Instr.findNow,Bl hk heq h hx.key]
     · rename_i heq
       obtain ⟨r',h1,h2⟩:=nY hk h (es:=es) (fj:=ys) ⟨by simpa using hl,fun i a b p q=>hv (i+1) a b (by simpa using p) (by simpa using q)⟩ e
       refine ⟨r',?_,?_⟩
       · simp [Instr.findNow,Bl hk heq h hx.key,h1]
       · cases r with
         | none=>cases r' with
           | none=>trivial
           | some _=>exact h2
         | some p=>
           obtain ⟨j,v⟩:=p
           cases r' with
           | none=>exact h2
           | some q=>
             obtain ⟨j',v'⟩:=q
             obtain ⟨h3,h4,h5,e',h6,h7⟩:=h2
             refine ⟨h3,h4,by omega,e',?_,h7⟩
             rw[show j - i=(j -(i+1))+1 by omega];simpa using h6
     · simp at e
theorem oM {P:Program} {t:TypeId} {d:TypeDesc} (hu:P.underlying t=some d) {k:AV} (hk:gH (some d) k=true) {φ:Ph} {k':Value} (h:VR φ k k') (b:Bool) (n:Nat) (w:World):
 (Instr.checkKey b (n+1) t k').run P w= .ok () w:=by
 unfold Instr.checkKey
 rw[Sem.run_bind,run_underlying hu]
 cases d<;>simp [gH] at hk<;>cases h<;>first | rfl | (simp [gH] at hk)
theorem tO {P:Program} {w:World} {a:Addr} {n:Nat} (l:List Int) (hl:(loadCells a n).run P w= .ok ((l.map (fun n=>Value.int .u8 n)).toArray) w) (c:Nat):
 (Conv.bytesToString (.slice (some a) n c)).run P w= .ok (.string ⟨(l.map (fun n=>UInt8.ofNat n.toNat)).toArray⟩) w:=by
 unfold Conv.bytesToString
 simp only[Sem.run_bind,hl,Result.andThen_ok]
 have:=Eh (P:=P) l (l.map (fun n=>Value.int .u8 n)) ByteArray.empty w rfl
 have e:forIn (m:=Sem) (l.map (fun n=>Value.int .u8 n)).toArray ByteArray.empty (fun c s=>(match c with | .int .u8 n=>do pure (ForInStep.yield (s.push (UInt8.ofNat n.toNat))) | _=>do stuck "bytesToString: byte expected";pure (ForInStep.yield s):Sem (ForInStep ByteArray)))
  =forIn (m:=Sem) (l.map (fun n=>Value.int .u8 n)) ByteArray.empty (fun c s=>(match c with | .int .u8 n=>do pure (ForInStep.yield (s.push (UInt8.ofNat n.toNat))) | _=>do stuck "bytesToString: byte expected";pure (ForInStep.yield s):Sem (ForInStep ByteArray))):=by
  rw[←Array.forIn_toList]
 rw[←e] at this
 refine (congrArg (fun r=>Result.andThen r fun a w'=>Sem.run P (pure (Value.string a)) w') this).trans ?_
 simp
theorem wx {φ:Ph}:∀{cs:List AV} {vs:List Value} (_:LR φ cs vs) {l:List UInt8} (_:dC (fun | .int .u8 b=>some (UInt8.ofNat b.toNat) | _=>none) cs=some l),
 ∃ns:List Int,vs=ns.map (fun n=>Value.int .u8 n)∧l=ns.map (fun n=>UInt8.ofNat n.toNat)
 | [],vs,hv,l,h=>by rw[hv.fi];simp [dC] at h;subst h;exact ⟨[],rfl,rfl⟩
 | c::cs,vs,hv,l,h=>by
   obtain ⟨y,ys,rfl,hy,rY⟩:=hv.bZ
   simp only[dC] at h
   split at h
   · simp at h
   · rename_i b hb
     split at h
     · simp at h
     · rename_i bs hbs
       simp at h;subst h
       obtain ⟨ns,rfl,rfl⟩:=wx rY hbs
       split at hb
       · cases hy
         simp at hb;subst hb
         exact ⟨_::ns,rfl,rfl⟩
       · simp at hb
structure Entries (P:Program) (x:Value) (es:Array MapEntry) (w:World):Prop where
 is:(x= .map none∧es= #[])∨∃r clock,x= .map (some r)∧w.heap[r]? =some (.map es clock)
theorem yC {P:Program} {t key elem:TypeId} (hu:P.underlying t=some (.map key elem)) {x k:Value} {es:Array MapEntry} {w:World} (vx:Entries P x es w)
 {d:TypeDesc} (hd:P.underlying key=some d) (Cw:∀b n,(Instr.checkKey b (n+1) key k).run P w= .ok () w) {r:Option (Nat×Value)} (hf:Instr.findNow d k es.toList 0=some r) {z:Value} (hz:r=none→(zeroValue elem).run P w= .ok z w) (ok:Bool):
 (Instr.lookup t x k ok).run P w= .ok (match r with | some (_,v)=>if ok then .tuple #[v,.bool true] else v | none=>if ok then .tuple #[z,.bool false] else z) w:=by
 have Kv:=fun b=>Cw b 9999
 rw[Instr.lookup]
 simp only[Sem.run_bind,run_underlying hu,Result.andThen_ok]
 rcases vx.is with ⟨rfl,rfl⟩ | ⟨b,clock,rfl,hb⟩
 · simp only[Sem.run_bind,Sem.run_pure,Result.andThen_ok,Kv,Instr.findKey,run_underlying hd,hf]
   cases r with
   | none=>simp [hz rfl]
   | some q=>simp
 · have wy:(getObj b).run P w= .ok (.map es clock) w:=by simp [getObj,Sem.run,hb]
   simp only[Sem.run_bind,Sem.run_pure,Result.andThen_ok,wy,Kv,Instr.findKey,run_underlying hd,hf]
   cases r with
   | none=>simp [hz rfl]
   | some q=>simp
theorem wz {P:Program} {t key elem:TypeId} (hu:P.underlying t=some (.map key elem)) {x k:Value} {es:Array MapEntry} {w:World} (vx:Entries P x es w)
 (Cw:∀b,(Instr.checkKey b 10000 key k).run P w= .ok () w) {r:Option (Nat×Value)} (hf:(Instr.findKey key k es.toList).run P w= .ok r w) {z:Value} (hz:r=none→(zeroValue elem).run P w= .ok z w) (ok:Bool):
 (Instr.lookup t x k ok).run P w= .ok (match r with | some (_,v)=>if ok then .tuple #[v,.bool true] else v | none=>if ok then .tuple #[z,.bool false] else z) w:=by
 rw[Instr.lookup]
 simp only[Sem.run_bind,run_underlying hu,Result.andThen_ok]
 rcases vx.is with ⟨rfl,rfl⟩ | ⟨b,clock,rfl,hb⟩
 · simp only[Sem.run_bind,Sem.run_pure,Result.andThen_ok,Cw,hf]
   cases r with
   | none=>simp [hz rfl]
   | some q=>simp
 · have wy:(getObj b).run P w= .ok (.map es clock) w:=by simp [getObj,Sem.run,hb]
   simp only[Sem.run_bind,Sem.run_pure,Result.andThen_ok,wy,Cw,hf]
   cases r with
   | none=>simp [hz rfl]
   | some q=>simp
theorem wB {φ:Ph} (hg:GL E φ) {h:au} {w:World} (ok:OK E φ h w) {ts:List AV} {a:Act} (ht:LR φ ts a.tmps.toList) {o:Oper} {v:AV} (e:dh E ts h o.op=some v):
 ∃v',VR φ v v'∧∀w',w'.heap=w.heap→(execOp a.eval o).run E.P w'= .ok (.value v') w':=by
 have ev:∀{x:Operand} {v:AV},du E ts x=some v→VR φ v (a.eval x):=fun h=>lu hg ht h
 unfold execOp
 generalize o.op=op at e ⊢
 unfold dh at e
 split at e
 ·
  split at e
  · rename_i hx
    obtain ⟨x',Zp,hr⟩:=Bk ok (ev hx) e
    exact ⟨x',Zp,fun w' hw=>eg (hr w' hw)⟩
  · simp at e
 ·
  split at e
  · rename_i el v0 hs hd hx
    split at e
    · rename_i he
      simp at e;subst e
      have h1:=ev hx
      generalize jt:a.eval _=cv at h1
      cases h1
      refine ⟨.string .empty,VR.str .empty,fun w' _=>eg ?_⟩
      simp [jt,convert,run_underlying hs,run_underlying hd,run_underlying he,Conv.bytesToString]
    · rename_i i o len _ _ he
      split at e
      · rename_i l hb
        simp at e;subst e
        have h1:=ev hx
        generalize jt:a.eval _=cv at h1
        cases h1 with
        | @slice _ lc _ _ _ _ hφ=>
        unfold Cj at hb
        split at hb
        · rename_i cs el' ro hgc
          split at hb
          · rename_i hle
            obtain ⟨C,e',lo,hi,hbk,hc⟩:=ok.cells hgc hφ
            obtain ⟨vs,Zm,AM,yx⟩:=hc.range o len hle
            obtain ⟨ns,rfl,rfl⟩:=wx yx hb
            refine ⟨.string ⟨(ns.map (fun n=>UInt8.ofNat n.toNat)).toArray⟩,?_,fun w' Zo=>eg ?_⟩
            · have:=VR.str (φ:=φ) ⟨(ns.map (fun n=>UInt8.ofNat n.toNat)).toArray⟩
              simpa using this
            · rw[←Zo] at hbk
              have yB:=lJ (P:=E.P) hbk (lc.off+o) _ AM
              rw[Zm] at yB
              have:=tO ns yB (fu ‹_› ‹_› lc.gC)
              rw[jt]
              simp only[convert,Sem.run_bind,run_underlying hs,run_underlying hd,Result.andThen_ok,run_underlying he]
              exact this
          · simp at hb
        · simp at hb
      · simp at e
    · simp at e
  · simp at e
 ·
  rename_i t x ix fI
  split at e
  · rename_i key elem m k hu hm hk
    split at e
    · rename_i vp
      have Cx:∃d,E.P.underlying key=some d∧gH (some d) k=true:=by
       cases hd:E.P.underlying key with
       | none=>rw[hd] at vp;simp [gH] at vp
       | some d=>rw[hd] at vp;exact ⟨d,rfl,vp⟩
      obtain ⟨d,hd,vy⟩:=Cx
      have R8:=ev hm
      have Ni:=ev hk
      split at e
      · simp at e
      · rename_i es vx
        have sQ:∃fj:Array MapEntry,D' φ es fj.toList∧∀w',w'.heap=w.heap→Entries E.P (a.eval x) fj w':=by
         split at vx
         · simp at vx;subst vx
           generalize jt:a.eval x=cv at R8
           cases R8
           exact ⟨#[],⟨rfl,fun i x y p _=>by simp at p⟩,fun w' _=>⟨.inl ⟨rfl,rfl⟩⟩⟩
         · rename_i i
           split at vx
           · rename_i es0 clock Zq
             simp at vx;subst vx
             generalize jt:a.eval x=cv at R8
             cases R8 with
             | @map _ l hφ=>
             have xX:=ok.live i _ l Zq hφ
             obtain ⟨D1,fj,hb,fC⟩:=xX
             exact ⟨fj,fC,fun w' hw=>⟨.inr ⟨l.dq,clock,rfl,by rw[hw];exact hb⟩⟩⟩
           · simp at vx
         · simp at vx
        obtain ⟨fj,fC,eR⟩:=sQ
        split at e
        · simp at e
        · rename_i j v0 hf
          obtain ⟨r',h1,h2⟩:=nY vy Ni fC hf
          cases r' with
          | none=>exact h2.elim
          | some q=>
          obtain ⟨j',v'⟩:=q
          obtain ⟨_,AM,_⟩:=h2
          simp at e;subst e
          refine ⟨if fI then .tuple #[v',.bool true] else v',?_,fun w' hw=>eg ?_⟩
          · split
            · exact VR.tuple' (gz:=[v',.bool true]) (.cons AM (.cons (.bool true) (.nil φ)))
            · exact AM
          · exact yC hu (eR w' hw) hd (fun b n=>oM hd vy Ni b n w') h1 (z:=undef) (fun e=>by simp at e) fI
        · rename_i hf
          obtain ⟨r',h1,h2⟩:=nY vy Ni fC hf
          cases r' with
          | some q=>exact h2.elim
          | none=>
          split at e
          · rename_i z hz
            simp at e;subst e
            obtain ⟨z',vo,hU⟩:=fY hz
            refine ⟨if fI then .tuple #[z',.bool false] else z',?_,fun w' hw=>eg ?_⟩
            · split
              · exact VR.tuple' (gz:=[z',.bool false]) (.cons (vo φ) (.cons (.bool false) (.nil φ)))
              · exact vo φ
            · exact yC hu (eR w' hw) hd (fun b n=>oM hd vy Ni b n w') h1 (fun _=>hU w') fI
          · simp at e
    · split at e
      · rename_i vp
        have Cx:∃d,E.P.underlying key=some d∧iu E (some d) k=true:=by
         cases hd:E.P.underlying key with
         | none=>rw[hd] at vp;simp [iu] at vp
         | some d=>rw[hd] at vp;exact ⟨d,rfl,vp⟩
        obtain ⟨d,hd,vy⟩:=Cx
        have R8:=ev hm
        have Ni:=ev hk
        split at e
        · simp at e
        · rename_i es vx
          have sQ:∃fj:Array MapEntry,D' φ es fj.toList∧∀w',w'.heap=w.heap→Entries E.P (a.eval x) fj w':=by
           split at vx
           · simp at vx;subst vx
             generalize jt:a.eval x=cv at R8
             cases R8
             exact ⟨#[],⟨rfl,fun i x y p _=>by simp at p⟩,fun w' _=>⟨.inl ⟨rfl,rfl⟩⟩⟩
           · rename_i i
             split at vx
             · rename_i es0 clock Zq
               simp at vx;subst vx
               generalize jt:a.eval x=cv at R8
               cases R8 with
               | @map _ l hφ=>
               have xX:=ok.live i _ l Zq hφ
               obtain ⟨D1,fj,hb,fC⟩:=xX
               exact ⟨fj,fC,fun w' hw=>⟨.inr ⟨l.dq,clock,rfl,by rw[hw];exact hb⟩⟩⟩
             · simp at vx
           · simp at vx
          obtain ⟨fj,fC,eR⟩:=sQ
          split at e
          · simp at e
          · rename_i j v0 hf
            obtain ⟨r',h1,h2⟩:=kl Ni fC hf
            cases r' with
            | none=>exact h2.elim
            | some q=>
            obtain ⟨j',v'⟩:=q
            obtain ⟨_,AM,_⟩:=h2
            simp at e;subst e
            refine ⟨if fI then .tuple #[v',.bool true] else v',?_,fun w' hw=>eg ?_⟩
            · split
              · exact VR.tuple' (gz:=[v',.bool true]) (.cons AM (.cons (.bool true) (.nil φ)))
              · exact AM
            · exact wz hu (eR w' hw) (fun b=>m_ hd vy Ni b 9998 w') (iA hd vy Ni (h1 w')) (z:=undef) (fun e=>by simp at e) fI
          · rename_i hf
            obtain ⟨r',h1,h2⟩:=kl Ni fC hf
            cases r' with
            | some q=>exact h2.elim
            | none=>
            split at e
            · rename_i z hz
              simp at e;subst e
              obtain ⟨z',vo,hU⟩:=fY hz
              refine ⟨if fI then .tuple #[z',.bool false] else z',?_,fun w' hw=>eg ?_⟩
              · split
                · exact VR.tuple' (gz:=[z',.bool false]) (.cons (vo φ) (.cons (.bool false) (.nil φ)))
                · exact vo φ
              · exact wz hu (eR w' hw) (fun b=>m_ hd vy Ni b 9998 w') (iA hd vy Ni (h1 w')) (fun _=>hU w') fI
            · simp at e
      · simp at e
  · simp at e
 ·
  split at e
  · rename_i t i MO Eg
    have hl:=fX hg ht Eg
    obtain ⟨y,ys,rY,hy,Cs⟩:=hl.bZ
    rw[Cs.fi] at rY
    have h0:∀(args:Array Operand),args.toList.map a.eval=[y]→args.map a.eval= #[y]:=fun args e=>by rw[map_toArray,e]
    have h0:=h0 _ rY
    cases hy with
    | @map _ l hφ=>
    split at e
    · rename_i es clock hu Zq
      simp at e;subst e
      have xX:=ok.live i _ l Zq hφ
      obtain ⟨D1,fj,hb,hlen,_⟩:=xX
      refine ⟨_,.int _ _,fun w' hw=>?_⟩
      rw[←hw] at hb
      have wy:(getObj l.dq).run E.P w'= .ok (.map fj clock) w':=by simp [getObj,Sem.run,hb]
      simp [resolve,invoke,builtin,h0,Builtin.len_,MO,run_underlying hu,goInt,wy,hlen]
    · simp at e
  · simp at e
 · simp at e
end Go.Ab
end
section
namespace Go.Ab
variable {E:Env}
theorem tP (z:List AV):∀(n i:Nat),i<n*z.length→(eV z n)[i]? =z[i%z.length]?
 | 0,i,h=>by omega
 | n+1,i,h=>by
   rw[eV]
   by_cases hi:i<z.length
   · rw[List.getElem?_append_left hi,Nat.mod_eq_of_lt hi]
   · rw[List.getElem?_append_right (by omega),tP z n (i - z.length) (by rw[Nat.add_mul] at h;omega)]
     rw[Nat.mod_eq_sub_mod (a:=i) (by omega)]
theorem ly (z:List AV):∀n,(eV z n).length=n*z.length
 | 0=>by simp [eV]
 | n+1=>by rw[eV,List.length_append,ly z n,Nat.add_mul];omega
theorem G9 {φ:Ph} {z:List AV} {z':Array Value} (h:LR φ z z'.toList) (n:Nat):LR φ (eV z n) ((Array.range (n*z'.size)).map (fun i=>z'[i%z'.size]!)).toList:=by
 have hl:z.length=z'.size:=by simpa using h.1
 refine ⟨by rw[ly];simp [hl],fun i x y hx hy=>?_⟩
 have hi:i<n*z.length:=by
  have:=(List.getElem?_eq_some_iff.1 hx).1
  rwa [ly] at this
 rw[tP z n i hi] at hx
 obtain ⟨v,hv,hr⟩:=h.get hx
 have acJ:0<z'.size:=by
  rcases Nat.eq_zero_or_pos z'.size with h0 | h0
  · rw[hl,h0] at hi;omega
  · exact h0
 have:i%z'.size<z'.size:=Nat.mod_lt _ acJ
 rw[hl] at hi
 simp [hi] at hy
 rw[hl] at hv
 simp [this] at hv
 simp [this] at hy
 rw[←hy,hv];exact hr
structure Made (E:Env) (φ:Ph) (obj:aR) (mk:Nat→AV) (O:Obj) (mk':Nat→Value):Prop where
 val:∀(φ':Ph) (i b:Nat),φ.le φ'→φ' i=some ⟨b,0,0⟩→VR φ' (mk i) (mk' b)
 obj:∀(φ':Ph) (b:Nat),φ.le φ'→OR E φ' obj ⟨b,0,0⟩ (some O)
theorem tQ {φ φ':Ph} (hle:φ.le φ') {cs:List AV} {C:Array Value} (h:LR φ cs C.toList) (t:TypeId) (b:Nat):OR E φ' (.cells cs t false) ⟨b,0,0⟩ (some (.cells C t)):=by
 refine ⟨C,t,0,0,rfl,⟨?_,fun k x hk=>?_,fun _ k _ _=>by omega,fun _ _ _=>rfl⟩,fun _=>⟨rfl,rfl,fun _ _ _=>by have:=h.1;simp at this;exact this.symm⟩⟩
 · have:=h.1;simp at this;simp [eB,this]
 · obtain ⟨y,hy,hr⟩:=h.get hk
   exact ⟨y,by simpa using hy,hr.mono hle⟩
set_option linter.unusedSimpArgs false in
set_option maxHeartbeats 1000000 in
theorem tR {φ:Ph} (hg:GL E φ) {ts:List AV} {a:Act} (ht:LR φ ts a.tmps.toList) {o:Oper} {obj:aR} {mk:Nat→AV} (e:dv E ts o.op=some (obj,mk)):
 ∃O mk',Made E φ obj mk O mk'∧∀w,(execOp a.eval o).run E.P w= .ok (.value (mk' w.heap.size)) (w.alloc O):=by
 have ev:∀{x:Operand} {v:AV},du E ts x=some v→VR φ v (a.eval x):=fun h=>lu hg ht h
 unfold execOp
 generalize o.op=op at e ⊢
 unfold dv at e
 split at e
 ·
  rename_i t
  split at e
  · rename_i z hz
    simp at e;obtain ⟨rfl,rfl⟩:=e
    obtain ⟨z',vo,hU⟩:=fY hz
    refine ⟨.cells z'.cells t,fun b=> .pointer (some ⟨b,0,none⟩),⟨fun φ' i b _ hi=>by have:=VR.ptr (φ:=φ') 0 hi;simpa using this,fun φ' b hle=>tQ hle (vo φ).cells _ b⟩,fun w=>eg ?_⟩
    simp [Instr.alloc,hU,newVar,newRow]
  · simp at e
 ·
  rename_i t x
  split at e
  · rename_i v hv
    simp at e;obtain ⟨rfl,rfl⟩:=e
    refine ⟨.cells (a.eval x).cells t,fun b=> .pointer (some ⟨b,0,none⟩),⟨fun φ' i b _ hi=>by have:=VR.ptr (φ:=φ') 0 hi;simpa using this,fun φ' b hle=>tQ hle (ev hv).cells _ b⟩,fun w=>eg ?_⟩
    simp [Instr.box,newVar,newRow]
  · simp at e
 ·
  rename_i t len parts
  split at e
  · rename_i elem hu
    split at e
    · rename_i n z ps hn hz MN
      split at e
      · rename_i hc
        split at e
        · rename_i cs hf
          simp at e;obtain ⟨rfl,rfl⟩:=e
          obtain ⟨z',vo,hU⟩:=fY hz
          have hp:=vv hg ht MN
          have V_:z'.cells.size=n:=by have:=(vo φ).cells.1;simp at this;omega
          have Nj:=G9 (vo φ).cells len
          rw[V_] at Nj
          obtain ⟨C',wu,yx⟩:=ry (place:=fun i=>some (i*n,n)) (qs:=(parts.map fun (i,x)=>(i,a.eval x)).toList) (by simpa using hp) Nj hf
          refine ⟨.cells C' elem,fun b=> .slice (some ⟨b,0,none⟩) len len,⟨fun φ' i b _ hi=>by have:=VR.slice (φ:=φ') 0 len len false hi;simpa [fu] using this,fun φ' b hle=>tQ hle yx _ b⟩,fun w=>eg ?_⟩
          have h24:¬len*n>2^24:=by omega
          simp only[Instr.buildSlice,Sem.run_bind,run_underlying hu,Result.andThen_ok,dz hn,h24,if_false,Sem.run_pure]
          by_cases h0:len*n=0
          · simp only[h0,if_true,Sem.run_pure,Result.andThen_ok]
            rw[h0] at wu
            have r0:Array.range 0= #[]:=rfl
            simp [r0] at wu
            simp [wu,newRow,r0]
          · simp only[h0,if_false,Sem.run_bind,hU,Result.andThen_ok,Sem.run_pure]
            rw[V_]
            simp only[wu]
            simp [newRow]
        · simp at e
      · simp at e
    · simp at e
  · simp at e
 ·
  rename_i t lo co
  split at e
  · rename_i elem k len k' cap hu hl hc
    split at e
    · rename_i n bytes z hn hb hz
      split at e
      · rename_i G6
        obtain ⟨c1,c2,c3,c4,c5⟩:=G6
        simp at e;obtain ⟨rfl,rfl⟩:=e
        obtain ⟨z',vo,hU⟩:=fY hz
        have V_:z'.cells.size=n:=by have:=(vo φ).cells.1;simp at this;omega
        have Nj:=G9 (vo φ).cells cap.toNat
        rw[V_] at Nj
        have h1:=ev hl
        have h2:=ev hc
        generalize Nk:a.eval lo=lv at h1
        generalize jt:a.eval co=cv at h2
        cases h1;cases h2
        refine ⟨.cells ((Array.range (cap.toNat*n)).map (fun i=>z'.cells[i%n]!)) elem,fun b=> .slice (some ⟨b,0,none⟩) len.toNat cap.toNat,
         ⟨fun φ' i b _ hi=>by have:=VR.slice (φ:=φ') 0 len.toNat cap.toNat false hi;simpa [fu] using this,fun φ' b hle=>tQ hle Nj _ b⟩,fun w=>eg ?_⟩
        have w1:IntKind.i64.wrap len=len:=IntWalk.i64_in _ (by omega)
        have w2:IntKind.i64.wrap cap=cap:=IntWalk.i64_in _ (by omega)
        obtain ⟨inf,Ei,fP⟩:=nW (rq _ hb) w
        have t1:¬(cap<0∨(2^48:Int)<bytes*cap):=by omega
        simp only[Instr.makeSlice,Sem.run_bind,run_underlying hu,Result.andThen_ok,Nk,jt,asInt,asIntOf,Sem.run_pure,Ei,fP,w1,w2]
        have V':(0:Int)≤inf.bytes*cap:=Int.mul_nonneg (by omega) (by omega)
        have tl:(decide (cap<0)||decide ((inf.bytes:Int)*cap>2^48))=false:=by
         rw[fP];simp only[Bool.or_eq_false_iff,decide_eq_false_iff_not];omega
        have tl2:decide (len<0)=false:=by simp only[decide_eq_false_iff_not];omega
        have tl3:decide (len>cap)=false:=by simp only[decide_eq_false_iff_not];omega
        rw[←fP]
        simp only[tl,tl2,tl3,Bool.or_self,Bool.false_eq_true,if_false,run_askRoom,dz hn,Sem.run_bind,Result.andThen_ok]
        by_cases h0:cap.toNat*n=0
        · have r0:Array.range 0= #[]:=rfl
          simp [h0,newRow,r0]
        · simp only[h0,if_false,Sem.run_bind,hU,Result.andThen_ok,Sem.run_pure]
          simp [newRow,V_]
      · simp at e
    · simp at e
  · simp at e
 ·
  rename_i t r
  split at e
  · simp at e;obtain ⟨rfl,rfl⟩:=e
    exact ⟨.map #[] 0,fun b=> .map (some b),⟨fun φ' i b _ hi=>by have:=VR.map (φ:=φ') hi;simpa using this,fun φ' b hle=>⟨rfl, #[],rfl,rfl,fun i x y p _=>by simp at p⟩⟩,fun w=>eg (by simp [Instr.makeMap])⟩
  · rename_i o
    split at e
    · rename_i hu hv
      simp at e;obtain ⟨rfl,rfl⟩:=e
      have h1:=ev hv
      generalize Nk:a.eval o=lv at h1
      cases h1
      exact ⟨.map #[] 0,fun b=> .map (some b),⟨fun φ' i b _ hi=>by have:=VR.map (φ:=φ') hi;simpa using this,fun φ' b hle=>⟨rfl, #[],rfl,rfl,fun i x y p _=>by simp at p⟩⟩,fun w=>eg (by simp [Instr.makeMap,run_underlying hu,Nk,asInt,asIntOf])⟩
    · simp at e
 ·
  rename_i t x
  split at e
  · rename_i s hu hx
    simp at e;obtain ⟨rfl,rfl⟩:=e
    have h1:=ev hx
    generalize Nk:a.eval x=lv at h1
    generalize G8:AV.str s=s0 at h1
    cases h1<;>cases G8
    rename_i s'
    exact ⟨.stringIter s' 0,fun b=> .pointer (some ⟨b,0,none⟩),⟨fun φ' i b _ hi=>by have:=VR.ptr (φ:=φ') 0 hi;simpa using this,fun φ' b hle=>⟨rfl,s',rfl,rfl⟩⟩,fun w=>eg (by simp [Instr.range,run_underlying hu,Nk])⟩
  · rename_i hu hx
    simp at e;obtain ⟨rfl,rfl⟩:=e
    have h1:=ev hx
    generalize Nk:a.eval x=lv at h1
    cases h1
    exact ⟨.mapIter none 0 #[] 0,fun b=> .pointer (some ⟨b,0,none⟩),⟨fun φ' i b _ hi=>by have:=VR.ptr (φ:=φ') 0 hi;simpa using this,fun φ' b hle=>⟨rfl,rfl⟩⟩,fun w=>eg (by simp [Instr.range,run_underlying hu,Nk])⟩
  · simp at e
 · simp at e
end Go.Ab
end
