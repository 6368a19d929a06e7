import Derived.Laws.StructEq
import Derived.Laws.Slices
import Derived.Laws.Strings
import Derived.ChangeKeysEq
import Derived.Deep.MidRow
import Derived.Lib.Strings
import Derived.IntWalk
import Derived.Test.YtfllahfbmaafcaaA0
set_option linter.unusedVariables false
set_option linter.unusedSimpArgs false
section
namespace Go.Ab
variable {E:Env}
def GL (E:Env) (φ:Ph):Prop:=∀g,g<E.G→φ g=some ⟨g,0,0⟩
theorem nf {φ:Ph} (hg:GL E φ) {ts:List AV} {a:Act} (ht:LR φ ts a.tmps.toList) {x:Operand} {v:AV} (h:eh E ts x=some v):VR φ v (a.eval x):=by
 cases x with
 | tmp t=>
   simp only[eh,Option.some.injEq] at h;subst h
   have:=ht.getD (VR.undef φ) t
   rw[show a.eval (.tmp t)=a.tmps.toList.getD t undef by simp [Act.eval,Array.getD_eq_getD_getElem?,List.getD]]
   exact this
 | const c=>exact Bs φ h
 | global g=>
   simp only[eh] at h
   split at h
   · rename_i ke;simp at h;subst h;have:=VR.ptr 0 (hg g ke);simpa [Act.eval] using this
   · simp at h
 | func f=>simp [eh] at h;subst h;exact VR.Q1 (a':=[]) (b':=[]) f (LR.nil φ) (LR.nil φ)
theorem ia {φ:Ph} (hg:GL E φ) {ts:List AV} {a:Act} (ht:LR φ ts a.tmps.toList) {l:List Operand} {r:List AV} (h:fS E ts l=some r):LR φ r (l.map a.eval):=by
 obtain ⟨hl,hv⟩:=sj h
 refine ⟨by simp [hl],fun i x y hx hy=>?_⟩
 simp at hy
 obtain ⟨o,ho,rfl⟩:=hy
 obtain ⟨z,hz,he⟩:=hv i o ho
 rw[hx] at hz;simp at hz;subst hz
 exact nf hg ht he
theorem eB {P:Program} {t:TypeId} {n:Nat} (h:(P.info? t).map (·.size)=some n) (w:World):(sizeOf t).run P w= .ok n w:=by
 cases hq:P.info? t with
 | none=>simp [hq] at h
 | some i=>simp [hq] at h;simp [sizeOf,typeInfo,hq,h]
theorem pT {P:Program} {t:TypeId} {n:Nat} (h:(P.info? t).map (·.bytes)=some n) (w:World):∃i,(typeInfo t).run P w= .ok i w∧i.bytes=n:=by
 cases hq:P.info? t with
 | none=>simp [hq] at h
 | some i=>simp [hq] at h;exact ⟨i,by simp [typeInfo,hq],h⟩
theorem ib {t:TypeId} {z:AV} (h:eU E t=some z):∃z',(∀φ,VR φ z z')∧∀w,(zeroValue t).run E.P w= .ok z' w:=by
 unfold eU at h
 split at h
 · rename_i i hi
   split at h
   · rename_i z' hz
     exact ⟨z',fun φ=>Bs φ h,fun w=>by simp [zeroValue,typeInfo,hi,hz]⟩
   · simp at h
 · simp at h
theorem qH {t:TypeId} {b:Bool} (h:eQ E t=some b) (w:World):(isAgg t).run E.P w= .ok b w:=by
 unfold eQ at h
 unfold isAgg
 rw[Sem.run_bind]
 split at h<;>rename_i hu<;>simp at h
 · subst h;rw[run_underlying hu];rfl
 · subst h;rw[run_underlying hu];rfl
 · rename_i d h1 h2
   subst h;rw[run_underlying hu]
   cases d<;>first | rfl | (exact absurd rfl (h1 _)) | (exact absurd rfl (h2 _ _))
theorem toArray_extract (l:List Value) (a b:Nat):l.toArray.extract a b=((l.drop a).take (b - a)).toArray:=by simp
theorem nU {φ:Ph} {t:TypeId} {cs:List AV} {iw:List Value} (hc:LR φ cs iw) {off:Nat} {v:AV} (h:hJ E t cs off=some v):
 ∃v',VR φ v v'∧∀w,(part t iw.toArray off).run E.P w= .ok v' w:=by
 unfold hJ at h
 split at h
 · rename_i ha
   split at h
   · rename_i n hn
     split at h
     · simp at h;subst h
       refine ⟨.agg ((iw.drop off).take n).toArray,VR.OJ ((hc.drop off).take n),fun w=>?_⟩
       simp only[part,Sem.run_bind,qH ha,Result.andThen_ok,if_true,eB hn,Sem.run_pure,toArray_extract,Nat.add_sub_cancel_left]
     · simp at h
   · simp at h
 · rename_i ha
   obtain ⟨y,hy,hv⟩:=hc.get h
   refine ⟨y,hv,fun w=>?_⟩
   simp only[part,Sem.run_bind,qH ha,Result.andThen_ok,Bool.false_eq_true,if_false]
   have:iw.toArray[off]? =some y:=by simpa using hy
   simp [this]
 · simp at h
theorem bytes_beq (a b:ByteArray):(a.toList==b.toList)=(a.data.toList==b.data.toList):=by rw[ByteArray.toList_eq,ByteArray.toList_eq]
set_option linter.unusedSimpArgs false in
theorem KV {φ:Ph} {op:BinOp} {k:IntKind} {x y:Int} {v:AV} (h:cP op k x y=some v) (hs:op≠ .shl) (qI:op≠ .shr) (t:TypeId):
 ∃v',VR φ v v'∧∀w,(binOp op t (.int k x) (.int k y)).run E.P w= .ok v' w:=by
 unfold cP at h
 split at h
 all_goals first
  | (simp at h;subst h;exact ⟨_,.int _ _,fun w=>by simp [binOp,Op.intArith,Op.intBits,Op.intCmp]⟩)
  | (simp at h;subst h;exact ⟨_,.bool _,fun w=>by simp [binOp,Op.intArith,Op.intBits,Op.intCmp]⟩)
  | (split at h
     · simp at h
     · rename_i hy
       simp at h;subst h;exact ⟨_,.int _ _,fun w=>by simp [binOp,Op.intDiv,hy]⟩)
  | simp at h
set_option linter.unusedSimpArgs false in
theorem KW {φ:Ph} {op:BinOp} {x y:ByteArray} {v:AV} (h:vj op x.data.toList y.data.toList=some v) (t:TypeId):
 ∃v',VR φ v v'∧∀w,(binOp op t (.string x) (.string y)).run E.P w= .ok v' w:=by
 unfold vj at h
 split at h
 · split at h
   · rename_i ke
     simp at h;subst h
     refine ⟨.string (x++y),?_,fun w=>?_⟩
     · have:=VR.str (φ:=φ) (x++y);simpa using this
     · have aj0:x.size+y.size<1099511627776:=by
        have e:∀b:ByteArray,b.size=b.data.toList.length:=fun b=>by cases b;rfl
        rw[e,e];exact ke
       have hm:IntKind.i64.max=9223372036854775807:=by decide
       have:¬((x.size+y.size:Nat):Int) >IntKind.i64.max:=by rw[hm];omega
       simp only[binOp,Op.stringOp,this,if_false,Sem.run_pure]
   · simp at h
 all_goals first
  | (simp only[Option.some.injEq] at h;subst h;exact ⟨_,.bool _,fun w=>by simp only[binOp,Op.stringOp,bytes_beq,ByteArray.toList_eq,Sem.run_pure]⟩)
  | simp at h
theorem Ed {φ:Ph} {t:TypeId} {x y:AV} {r:Bool} (h:OI E t x y=some r) {x' y':Value} (hx:VR φ x x') (hy:VR φ y y') (dd:Nat):
 ∀w,(Op.equalIn (dd+1) t x' y').run E.P w= .ok r w:=by
 intro w
 unfold OI at h
 split at h<;>(try (simp at h;done))
 all_goals
  rename_i hd
  split at h<;>(try (simp at h;done))
  all_goals
   simp only[Option.some.injEq] at h
   subst h
   unfold Op.equalIn
   rw[Sem.run_bind,run_underlying hd]
   cases hx<;>cases hy<;>rfl
theorem Ie {φ:Ph} {t:TypeId} {x y:AV} {r:Bool} (h:OI E t x y=some r) {x' y':Value} (hx:VR φ x x') (hy:VR φ y y'):
 ∀w,(Op.equal t x' y').run E.P w= .ok r w:=Ed h hx hy 9999
theorem pC {φ:Ph} {eq:TypeId→AV→AV→Option Bool} {d:Nat} (heq:∀t a b r a' b',eq t a b=some r→VR φ a a'→VR φ b b'→∀w,(Op.equalIn d t a' b').run E.P w= .ok r w)
 {xs ys:List AV} {Be yp:Array Value} (hx:LR φ xs Be.toList) (hy:LR φ ys yp.toList):∀{fs:List Field} {r:Bool} (_:nQ E eq xs ys fs=some r) (w:World),(Op.eqFields d Be yp fs).run E.P w= .ok r w
 | [],r,h,w=>by simp [nQ] at h;subst h;rfl
 | f::fs,r,h,w=>by
   simp only[nQ] at h
   unfold Op.eqFields
   split at h
   · rename_i hn
     rw[if_neg (by simp [hn])]
     exact pC heq hx hy h w
   · rename_i hn
     rw[if_pos hn]
     split at h
     · rename_i a b ha hb
       obtain ⟨a',hva,hra⟩:=nU hx ha
       obtain ⟨b',hvb,hrb⟩:=nU hy hb
       rw[Array.toArray_toList] at hra hrb
       split at h
       · rename_i he
         have:=pC heq hx hy h w
         simp [Sem.run_bind,hra,hrb,heq _ _ _ _ _ _ he hva hvb,this]
       · rename_i he
         simp at h;subst h
         simp [Sem.run_bind,hra,hrb,heq _ _ _ _ _ _ he hva hvb]
       · simp at h
     · simp at h
theorem oh {φ:Ph}:∀(n d:Nat) (t:TypeId) (a b:AV) (r:Bool) (a' b':Value) (_:iD E n t a b=some r) (_:VR φ a a') (_:VR φ b b') (w:World),(Op.equalIn (d+n) t a' b').run E.P w= .ok r w
 | 0,_,_,_,_,_,_,_,h,_,_,_=>by simp [iD] at h
 | n+1,d,t,a,b,r,a',b',h,ha,hb,w=>by
   rw[←Nat.add_assoc]
   unfold iD at h
   split at h
   · cases ha;cases hb
     split at h
     · rename_i hu
       split at h
       · rename_i hk;subst hk
         simp at h;subst h
         exact run_equalIn_int w (d+n) t _ _ _ _ hu
       · simp at h
     · simp at h
   · cases ha;cases hb
     split at h
     · rename_i hu
       simp only[Option.some.injEq] at h;subst h
       rw[run_equalIn_string w (d+n) t _ _ hu,ByteArray.toList_eq,ByteArray.toList_eq]
     · simp at h
   · obtain ⟨Be,rfl,Dx⟩:=ha.jN
     obtain ⟨yp,rfl,uy⟩:=hb.jN
     split at h
     · rename_i fs hu
       split at h
       · rename_i iP
         have hfs:E.P.fieldsOf t=fs:=by simp [Program.fieldsOf,hu]
         rw[run_equalIn_struct w (d+n) t Be yp (by rw[hfs];exact hu) iP,hfs]
         exact pC (fun t a b r a' b' h1 h2 h3 w=>oh n d t a b r a' b' h1 h2 h3 w) Dx uy h w
       · simp at h
     · simp at h
   · exact Ed h ha hb (d+n) w
theorem zF {op:BinOp} {t:TypeId} (x y:Operand) (xs ys:Array Value) (h:E.P.eqGuardType E.P.depth t=false) (w:World):(eqGuard op t x y (.agg xs) (.agg ys)).run E.P w= .ok () w:=by
 unfold eqGuard
 cases op<;>(try rfl)
 all_goals simp [Sem.run_bind,run_program,h]
theorem uN {op:BinOp} (h1:op≠ .eql) (h2:op≠ .neq) (t:TypeId) (x y:Operand) (a b:Value) (w:World):(eqGuard op t x y a b).run E.P w= .ok () w:=by
 unfold eqGuard;cases op<;>first | rfl | (exact absurd rfl h1) | (exact absurd rfl h2)
def FR (xc yc:Bool):Value→Value→Bool
 | .nilIface,.nilIface=>xc||yc
 | .agg _,.agg _=>false
 | _,_=>true
theorem mo {op:BinOp} (t:TypeId) (x y:Operand) (a b:Value) (h:FR (isConst x) (isConst y) a b=true) (w:World):
 (eqGuard op t x y a b).run E.P w= .ok () w:=by
 unfold eqGuard
 cases op<;>(try rfl)
 all_goals
  cases a<;>cases b<;>first
   | rfl
   | (simp [FR] at h;done)
   | (cases x<;>cases y<;>first | rfl | (simp [FR,isConst] at h;done))
theorem Ee {k k':IntKind} {x y:Int} (hy:¬y<0) (t:TypeId):
 (∀w,(binOp .shl t (.int k x) (.int k' y)).run E.P w= .ok (.int k (k.wrap (x*2^(min y.toNat k.bits)))) w)∧
 (∀w,(binOp .shr t (.int k x) (.int k' y)).run E.P w= .ok (.int k (x.fdiv (2^(min y.toNat k.bits)))) w):=by
 constructor<;>intro w<;>simp [binOp,Op.shift,hy]
theorem Bw {φ:Ph} {a b:AV} {a' b':Value} (hx:VR φ a a') (hy:VR φ b b') {xo yo:Operand} (h:pe (isConst xo) (isConst yo) a b=true):
 FR (isConst xo) (isConst yo) a' b'=true:=by
 cases hx<;>cases hy<;>first | rfl | exact h | (simp [pe] at h;done)
def kf:Value→Prop
 | .float _ _ | .complex _ _ _=>False
 | _=>True
theorem VR.kf {φ:Ph} {a:AV} {a':Value} (h:VR φ a a'):Ab.kf a':=by
 cases h with
 | any _ h=>cases a'<;>first | exact trivial | cases h
 | _=>exact trivial
theorem binOp_eql (t:TypeId) {a b:Value} (h1:∀k m k' m',a= .int k m→b= .int k' m'→False) (h2:∀k m,a= .string k→b= .string m→False) (h3:kf a) (h4:kf b):
 binOp .eql t a b=(do pure (.bool (←Op.equal t a b)):Sem Value):=by
 unfold binOp
 split<;>first
  | rfl
  | contradiction
  | (exact (h1 _ _ _ _ rfl rfl).elim)
  | (exact (h2 _ _ rfl rfl).elim)
  | (exact h3.elim)
  | (exact h4.elim)
  | (exfalso;simp_all;done)
theorem binOp_neq (t:TypeId) {a b:Value} (h1:∀k m k' m',a= .int k m→b= .int k' m'→False) (h2:∀k m,a= .string k→b= .string m→False) (h3:kf a) (h4:kf b):
 binOp .neq t a b=(do pure (.bool (!(←Op.equal t a b))):Sem Value):=by
 unfold binOp
 split<;>first
  | rfl
  | contradiction
  | (exact (h1 _ _ _ _ rfl rfl).elim)
  | (exact (h2 _ _ rfl rfl).elim)
  | (exact h3.elim)
  | (exact h4.elim)
  | (exfalso;simp_all;done)
set_option linter.unusedSimpArgs false in
theorem Q9 {φ:Ph} {op:BinOp} {t:TypeId} {xo yo:Operand} {a b v:AV} (h:jI E op t (isConst xo) (isConst yo) a b=some v) {a' b':Value} (hx:VR φ a a') (hy:VR φ b b'):
 ∃v',VR φ v v'∧∀w,(do eqGuard op t xo yo a' b';binOp op t a' b':Sem Value).run E.P w= .ok v' w:=by
 unfold jI at h
 split at h
 ·
  cases hx;cases hy
  split at h
  · simp at h
  · rename_i hn
    simp at h;subst h
    refine ⟨_,.int _ _,fun w=>?_⟩
    rw[Sem.run_bind,uN (by decide) (by decide)]
    exact (Ee (E:=E) hn t).1 w
 · cases hx;cases hy
   split at h
   · simp at h
   · rename_i hn
     simp at h;subst h
     refine ⟨_,.int _ _,fun w=>?_⟩
     rw[Sem.run_bind,uN (by decide) (by decide)]
     exact (Ee (E:=E) hn t).2 w
 · rename_i k x k' y h1 h2
   cases hx;cases hy
   split at h
   · rename_i hk;subst hk
     obtain ⟨v',hv,hr⟩:=KV (φ:=φ) (E:=E) h h1 h2 t
     refine ⟨v',hv,fun w=>?_⟩
     rw[Sem.run_bind,mo _ _ _ _ _ rfl]
     exact hr w
   · simp at h
 · cases hx;cases hy
   obtain ⟨v',hv,hr⟩:=KW (φ:=φ) (E:=E) h t
   refine ⟨v',hv,fun w=>?_⟩
   rw[Sem.run_bind,mo _ _ _ _ _ rfl]
   exact hr w
 ·
  split at h
  · simp at h
  · rename_i hg
    split at h
    · rename_i r hr
      simp at h;subst h
      refine ⟨_,.bool r,fun w=>?_⟩
      obtain ⟨Be,rfl,Dx⟩:=hx.jN
      obtain ⟨yp,rfl,uy⟩:=hy.jN
      rw[Sem.run_bind,zF _ _ _ _ (by simpa using hg)]
      have:=oh 16 9984 t _ _ r _ _ hr hx hy w
      simp only[Result.andThen_ok]
      rw[binOp_eql (a:= .agg Be) (b:= .agg yp) t (fun _ _ _ _ e=>by simp at e) (fun _ _ e=>by simp at e) trivial trivial,Sem.run_bind]
      rw[show (Op.equal t (.agg Be) (.agg yp)).run E.P w= .ok r w from this];rfl
    · simp at h
 · split at h
   · simp at h
   · rename_i hg
     split at h
     · rename_i r hr
       simp at h;subst h
       refine ⟨_,.bool (!r),fun w=>?_⟩
       obtain ⟨Be,rfl,Dx⟩:=hx.jN
       obtain ⟨yp,rfl,uy⟩:=hy.jN
       rw[Sem.run_bind,zF _ _ _ _ (by simpa using hg)]
       have:=oh 16 9984 t _ _ r _ _ hr hx hy w
       simp only[Result.andThen_ok]
       rw[binOp_neq (a:= .agg Be) (b:= .agg yp) t (fun _ _ _ _ e=>by simp at e) (fun _ _ e=>by simp at e) trivial trivial,Sem.run_bind]
       rw[show (Op.equal t (.agg Be) (.agg yp)).run E.P w= .ok r w from this];rfl
     · simp at h
 · rename_i h1 h2 _
   split at h
   · rename_i hg
     split at h
     · rename_i r hr
       simp at h;subst h
       refine ⟨_,.bool r,fun w=>?_⟩
       rw[Sem.run_bind,mo _ _ _ _ _ (Bw hx hy hg)]
       have:=Ie hr hx hy w
       simp only[Result.andThen_ok]
       rw[binOp_eql t (fun k m k' m' e e'=>by subst e;subst e';cases hx<;>cases hy<;>first | exact h1 _ _ _ _ rfl rfl | (simp [pe] at hg;done)) (fun k m e e'=>by subst e;subst e';cases hx<;>cases hy<;>first | exact h2 _ _ rfl rfl | (simp [pe] at hg;done)) (VR.kf hx) (VR.kf hy)]
       rw[Sem.run_bind,this];rfl
     · simp at h
   · simp at h
 · rename_i h1 h2 _
   split at h
   · rename_i hg
     split at h
     · rename_i r hr
       simp at h;subst h
       refine ⟨_,.bool (!r),fun w=>?_⟩
       rw[Sem.run_bind,mo _ _ _ _ _ (Bw hx hy hg)]
       have:=Ie hr hx hy w
       simp only[Result.andThen_ok]
       rw[binOp_neq t (fun k m k' m' e e'=>by subst e;subst e';cases hx<;>cases hy<;>first | exact h1 _ _ _ _ rfl rfl | (simp [pe] at hg;done)) (fun k m e e'=>by subst e;subst e';cases hx<;>cases hy<;>first | exact h2 _ _ rfl rfl | (simp [pe] at hg;done)) (VR.kf hx) (VR.kf hy)]
       rw[Sem.run_bind,this];rfl
     · simp at h
   · simp at h
 · simp at h
end Go.Ab
end
section
namespace Go.Ab
variable {E:Env}
theorem Wo {φ:Ph} {op:UnOp} {x v:AV} (h:unA op x=some v) {x':Value} (hx:VR φ x x'):∃v',VR φ v v'∧∀w,(Op.unary op x').run E.P w= .ok v' w:=by
 unfold unA at h
 split at h
 · cases hx;simp at h;subst h;exact ⟨_,.int _ _,fun w=>by simp [Op.unary,Op.intArith]⟩
 · cases hx;simp at h;subst h;exact ⟨_,.int _ _,fun w=>by simp [Op.unary,Op.intBits]⟩
 · cases hx;simp at h;subst h;exact ⟨_,.bool _,fun w=>by simp [Op.unary]⟩
 · simp at h
theorem vo {φ:Ph} {x:AV} {y n:Nat} (h:oa x y=some n) {x':Value} (hx:VR φ x x') {y':Nat} (hy:y≤y') (code:BoundsCode):
 (∀w,(Instr.sliceBound x' y' code).run E.P w= .ok n w)∧n≤y:=by
 unfold oa at h
 split at h
 · split at h
   · rename_i hc
     cases hx
     simp at h;subst h
     refine ⟨fun w=>?_,by omega⟩
     simp only[Instr.sliceBound,asIntOf,Sem.run_bind,Sem.run_pure,Result.andThen_ok]
     rw[if_pos (by omega)];rfl
   · simp at h
 · simp at h
def KX (φ:Ph):Option AV→Option Value→Prop
 | none,none=>True
 | some x,some y=>VR φ x y
 | _,_=>False
theorem Bx (isS:Bool) (len yx:Nat) (KY FT DB:Option Value):Instr.sliceBounds isS len yx KY FT DB=(do
 let m←(match DB with | some v=>Instr.sliceBound v yx (if isS then .slice3Acap else .slice3Alen) | none=>pure yx:Sem Nat)
 let h←(match FT,DB with | some v,some _=>Instr.sliceBound v m .slice3B | some v,none=>Instr.sliceBound v m (if isS then .sliceAcap else .sliceAlen) | none,none=>pure len | none,some _=>stuck "Slice: max without high" :Sem Nat)
 let l←(match KY with | some v=>Instr.sliceBound v h (if DB.isSome then .slice3C else .sliceB) | none=>pure 0:Sem Nat)
 pure (l,h,m)):=by
 unfold Instr.sliceBounds
 cases DB<;>cases FT<;>cases KY<;>rfl
theorem pg {φ:Ph} {len cap:Nat} {lo hi mx:Option AV} {l h m:Nat} (e:ks len cap lo hi mx=some (l,h,m)) {KY FT DB:Option Value}
 (V1:KX φ lo KY) (V2:KX φ hi FT) (Wq:KX φ mx DB) {yx:Nat} (hc:cap≤yx) (isS:Bool) (hlen:len≤cap):
 (∀w,(Instr.sliceBounds isS len yx KY FT DB).run E.P w= .ok (l,h,if mx.isNone then yx else m) w)∧l≤h∧h≤m∧m≤cap∧(mx=none→m=cap):=by
 unfold ks at e
 split at e
 · simp at e
 rename_i m0 hm0
 have hm:(∀w,(match DB with | some v=>Instr.sliceBound v yx (if isS then .slice3Acap else .slice3Alen) | none=>pure yx:Sem Nat).run E.P w= .ok (if mx.isNone then yx else m0) w)∧m0≤cap∧(mx=none→m0=cap):=by
  cases mx with
  | none=>
    cases DB with
    | some _=>exact Wq.elim
    | none=>simp at hm0;subst hm0;exact ⟨fun w=>rfl,Nat.le_refl _,fun _=>rfl⟩
  | some v=>
    cases DB with
    | none=>exact Wq.elim
    | some v'=>
      have:=fun code=>vo (E:=E) hm0 (show VR φ v v' from Wq) hc code
      exact ⟨(this _).1,(this .index).2,fun e=>by simp at e⟩
 split at e
 · simp at e
 rename_i h0 hh0
 have agM:m0≤(if mx.isNone then yx else m0):=by split<;>omega
 have hh:(∀w,(match FT,DB with | some v,some _=>Instr.sliceBound v (if mx.isNone then yx else m0) .slice3B | some v,none=>Instr.sliceBound v (if mx.isNone then yx else m0) (if isS then .sliceAcap else .sliceAlen) | none,none=>pure len | none,some _=>stuck "Slice: max without high" :Sem Nat).run E.P w= .ok h0 w)∧h0≤m0:=by
  cases hi with
  | none=>
    cases FT with
    | some _=>exact V2.elim
    | none=>
      cases mx with
      | some _=>simp at hh0
      | none=>
        cases DB with
        | some _=>exact Wq.elim
        | none=>simp at hh0;subst hh0;exact ⟨fun w=>rfl,by have:=hm.2.2 rfl;omega⟩
  | some v=>
    cases FT with
    | none=>exact V2.elim
    | some v'=>
      have:=fun code=>vo (E:=E) hh0 (show VR φ v v' from V2) agM code
      cases DB with
      | none=>exact ⟨(this _).1,(this .index).2⟩
      | some _=>exact ⟨(this _).1,(this .index).2⟩
 split at e
 · simp at e
 rename_i l0 hl0
 simp at e
 obtain ⟨rfl,rfl,rfl⟩:=e
 have hl:(∀w,(match KY with | some v=>Instr.sliceBound v h0 (if DB.isSome then .slice3C else .sliceB) | none=>pure 0:Sem Nat).run E.P w= .ok l0 w)∧l0≤h0:=by
  cases lo with
  | none=>
    cases KY with
    | some _=>exact V1.elim
    | none=>simp at hl0;subst hl0;exact ⟨fun w=>rfl,by omega⟩
  | some v=>
    cases KY with
    | none=>exact V1.elim
    | some v'=>
      have:=fun code=>vo (E:=E) hl0 (show VR φ v v' from V1) (Nat.le_refl _) code
      exact ⟨(this _).1,(this .index).2⟩
 refine ⟨fun w=>?_,hl.2,hh.2,hm.2.1,hm.2.2⟩
 rw[Bx,Sem.run_bind,hm.1 w,Result.andThen_ok,Sem.run_bind,hh.1 w,Result.andThen_ok,Sem.run_bind,hl.1 w]
 rfl
theorem tQ (b o n:Nat):(⟨b,o,none⟩:Addr).add n=⟨b,o+n,none⟩:=Addr.add_mid b o n
theorem KZ {φ:Ph} {t:TypeId} {x v:AV} {lo hi mx:Option AV} (e:dw E t x lo hi mx=some v) {x':Value} {KY FT DB:Option Value}
 (hx:VR φ x x') (V1:KX φ lo KY) (V2:KX φ hi FT) (Wq:KX φ mx DB):∃v',VR φ v v'∧∀w,(Instr.sliceAt t x' KY FT DB).run E.P w= .ok v' w:=by
 unfold dw at e
 split at e
 ·
  rename_i n elem i o hu
  cases hx with
  | @ptr _ l _ hφ=>
  split at e
  · rename_i l0 h0 m0 size hb hs
    simp at e;subst e
    obtain ⟨hr,h1,h2,h3,h4⟩:=pg (E:=E) hb V1 V2 Wq (Nat.le_refl n) false (Nat.le_refl n)
    have hm:(if mx.isNone then n else m0)=m0:=by
     cases mx with
     | none=>simp [h4 rfl]
     | some _=>rfl
    rw[hm] at hr
    refine ⟨_,.slice (if m0=l0 then o else o+l0*size) (h0 - l0) (m0 - l0) false hφ,fun w=>?_⟩
    simp only[Instr.sliceAt,Sem.run_bind,run_underlying hu,Result.andThen_ok,Instr.sureAddr,Sem.run_pure,hr w,eB hs,gJ,Bool.false_eq_true,if_false]
    by_cases hml:m0=l0
    · simp [hml]
    · simp only[hml,if_false,tQ];rw[Nat.add_assoc]
  · simp at e
 ·
  rename_i s hu
  split at e
  · rename_i l0 h0 m0 hb
    simp at e;subst e
    generalize hs:s=s0 at hx hb
    cases hx with
    | str s'=>
    subst hs
    have e1:s'.size=s'.data.toList.length:=by cases s';rfl
    cases DB with
    | some _=>exact Wq.elim
    | none=>
    obtain ⟨hr,h1,h2,h3,h4⟩:=pg (E:=E) (mx:=none) (DB:=none) hb V1 V2 trivial (Nat.le_refl _) false (Nat.le_refl _)
    refine ⟨.string (s'.extract l0 h0),?_,fun w=>?_⟩
    · have:=VR.str (φ:=φ) (s'.extract l0 h0)
      have e2:(s'.extract l0 h0).data.toList=(s'.data.toList.drop l0).take (h0 - l0):=by
       exact Lib.extract_data s' l0 h0
      rw[e2] at this;exact this
    · have Ig:=hr w
      rw[←e1] at Ig
      simp only[Instr.sliceAt,Instr.slice,Sem.run_bind,run_underlying hu,Result.andThen_ok,Option.isSome_none,Bool.false_eq_true,if_false,Ig,Sem.run_pure]
  · simp at e
 ·
  rename_i elem hu
  cases hx
  split at e
  · rename_i r size hb hs
    simp at e;subst e
    obtain ⟨l0,h0,m0⟩:=r
    obtain ⟨hr,h1,h2,h3,h4⟩:=pg (E:=E) hb V1 V2 Wq (Nat.le_refl _) true (Nat.le_refl _)
    have hm:(if mx.isNone then 0 else m0)=0:=by split<;>omega
    rw[hm] at hr
    refine ⟨_,.aQ,fun w=>?_⟩
    obtain rfl:l0=0:=by omega
    obtain rfl:h0=0:=by omega
    simp only[Instr.sliceAt,Instr.slice,Sem.run_bind,run_underlying hu,Result.andThen_ok,hr w,eB hs,if_true,Sem.run_pure]
  · simp at e
 · rename_i elem i o len cap op hu
   cases hx with
   | @slice _ l _ _ _ _ hφ=>
   split at e
   · rename_i hlc
     split at e
     · rename_i l0 h0 m0 size hb hs
       have hcc:cap≤gJ op cap l.iy:=by unfold gJ;split<;>omega
       obtain ⟨hr,h1,h2,h3,h4⟩:=pg (E:=E) hb V1 V2 Wq hcc true hlc
       have run:∀w,(Instr.sliceAt t (.slice (some ⟨l.dY,l.off+o,none⟩) len (gJ op cap l.iy)) KY FT DB).run E.P w=
        .ok (.slice (if (if mx.isNone then gJ op cap l.iy else m0)=l0 then some ⟨l.dY,l.off+o,none⟩ else some ⟨l.dY,l.off+o+l0*size,none⟩) (h0 - l0) ((if mx.isNone then gJ op cap l.iy else m0) - l0)) w:=fun w=>by
        simp only[Instr.sliceAt,Instr.slice,Sem.run_bind,run_underlying hu,Result.andThen_ok,hr w,eB hs,Sem.run_pure,Option.map_some,tQ]
       split at e
       · rename_i hml
         split at e
         · rename_i pQ
           have hmn:mx.isNone=true:=by simp at pQ;simpa using pQ.2
           simp only[Option.some.injEq] at e;subst e
           have e0:h0 - l0=0:=by omega
           rw[e0] at run
           by_cases hq:(if mx.isNone then gJ op cap l.iy else m0)=l0
           · exact ⟨_,.dN _ _,fun w=>by rw[run w,if_pos hq]⟩
           · exact ⟨_,.dN _ _,fun w=>by rw[run w,if_neg hq]⟩
         · rename_i pQ
           simp at e;subst e
           have hcm:(if mx.isNone then gJ op cap l.iy else m0)=m0:=by
            cases hmn:mx with
            | none=>subst hmn;simp at pQ;subst pQ;simp [gJ,h4 rfl]
            | some _=>rfl
           rw[hcm,if_pos hml] at run
           exact ⟨_,.slice o (h0 - l0) (m0 - l0) false hφ,run⟩
       · rename_i hml
         simp only[Option.some.injEq] at e;subst e
         have dR:¬(if mx.isNone then gJ op cap l.iy else m0)=l0:=by
          split
          · rename_i hmn;have:=h4 (by simpa using hmn);omega
          · exact hml
         rw[if_neg dR,Nat.add_assoc] at run
         refine ⟨_,?_,run⟩
         have:=VR.slice (φ:=φ) (o+l0*size) (h0 - l0) (m0 - l0) (op&&mx.isNone) hφ
         have e2:gJ (op&&mx.isNone) (m0 - l0) l.iy=(if mx.isNone then gJ op cap l.iy else m0) - l0:=by
          cases hmn:mx with
          | none=>
            have h5:=h4 hmn
            cases op with
            | true=>simp [gJ];omega
            | false=>simp [gJ];omega
          | some _=>simp [gJ]
         rw[e2] at this;exact this
     · simp at e
   · simp at e
 · simp at e
end Go.Ab
end
section
namespace Go.Ab
variable {E:Env}
theorem pU:∀(l:List Value) (k off:Nat) (C:Array Value),(l.zipIdx k).foldl (fun cs (x:Value×Nat)=>cs.setIfInBounds (off+x.2) x.1) C=j3 C (off+k) l
 | [],_,_,_=>rfl
 | v::vs,k,off,C=>by
   rw[List.zipIdx_cons,List.foldl_cons,pU vs (k+1) off,j3,Nat.add_assoc]
theorem LR.setFrom {φ:Ph}:∀{vs:List AV} {qJ:List Value} (_:LR φ vs qJ) {cs:List AV} {C:Array Value} (_:LR φ cs C.toList) (o:Nat),LR φ (Ab.setFrom cs o vs) (j3 C o qJ).toList
 | [],qJ,hv,cs,C,hc,o=>by rw[hv.gC];exact hc
 | v::vs,qJ,hv,cs,C,hc,o=>by
   obtain ⟨y,ys,rfl,hy,uy⟩:=hv.cr
   rw[Ab.setFrom,j3]
   refine LR.setFrom uy ?_ (o+1)
   rw[Array.toList_setIfInBounds]
   exact hc.set hy o
def PR (φ:Ph) (ps:List (Nat×AV)) (qs:List (Nat×Value)):Prop:=ps.length=qs.length∧∀(i:Nat) (x:Nat×AV) (y:Nat×Value),ps[i]? =some x→qs[i]? =some y→x.1=y.1∧VR φ x.2 y.2
theorem PR.cr {φ:Ph} {x:Nat×AV} {xs:List (Nat×AV)} {ys:List (Nat×Value)} (h:PR φ (x::xs) ys):∃y yp,ys=y::yp∧(x.1=y.1∧VR φ x.2 y.2)∧PR φ xs yp:=by
 obtain ⟨hl,hv⟩:=h
 cases ys with
 | nil=>simp at hl
 | cons y ys=>exact ⟨y,ys,rfl,hv 0 x y (by simp) (by simp),by simpa using hl,fun i a b ha hb=>hv (i+1) a b (by simpa using ha) (by simpa using hb)⟩
theorem yz {φ:Ph} (hg:GL E φ) {ts:List AV} {a:Act} (ht:LR φ ts a.tmps.toList):∀{l:List (Nat×Operand)} {r:List (Nat×AV)} (_:jY E ts l=some r),PR φ r (l.map fun (i,x)=>(i,a.eval x))
 | [],r,h=>by simp [jY] at h;subst h;exact ⟨rfl,fun i x y hx _=>by simp at hx⟩
 | (i,o)::rest,r,h=>by
   simp only[jY] at h
   cases hv:eh E ts o with
   | none=>simp [hv] at h
   | some v=>
     simp only[hv] at h
     cases hr:jY E ts rest with
     | none=>simp [hr] at h
     | some l=>
       simp only[hr,Option.some.injEq] at h;subst h
       obtain ⟨h1,h2⟩:=yz hg ht hr
       refine ⟨by simpa using h1,fun j x y hx hy=>?_⟩
       cases j with
       | zero=>simp at hx hy;subst hx;subst hy;exact ⟨rfl,nf hg ht hv⟩
       | succ j=>simp at hx;exact h2 j x y hx (by simpa using hy)
theorem tR {φ:Ph} {place:Nat→Option (Nat×Nat)}:∀{ps:List (Nat×AV)} {qs:List (Nat×Value)} (_:PR φ ps qs) {cs iw:List AV} {C:Array Value} (_:LR φ cs C.toList) (_:rF place cs ps=some iw),
 ∃C',Instr.fill place C qs=some C'∧LR φ iw C'.toList
 | [],qs,hp,cs,iw,C,hc,h=>by
   cases qs with
   | nil=>simp [rF] at h;subst h;exact ⟨C,rfl,hc⟩
   | cons q qs=>simp [PR] at hp
 | (i,v)::rest,qs,hp,cs,iw,C,hc,h=>by
   obtain ⟨⟨j,v'⟩,qs',rfl,⟨he,hv⟩,oi⟩:=hp.cr
   simp only at he hv;subst he
   simp only[rF] at h
   simp only[Instr.fill]
   cases OM:place i with
   | none=>simp [OM] at h
   | some x=>
     obtain ⟨off,size⟩:=x
     simp only[OM] at h ⊢
     split at h
     · rename_i K0
       have Q_:=hv.cells
       have hl:v'.cells.size=size:=by have:=Q_.1;simp at this;omega
       have QD:C.size=cs.length:=by have:=hc.1;simp at this;omega
       have FP:(decide (v'.cells.size≠size)||decide (off+v'.cells.size>C.size))=false:=by
        simp only[Bool.or_eq_false_iff,decide_eq_false_iff_not];omega
       simp only[FP,Bool.false_eq_true,if_false]
       have adg:(v'.cells.zipIdx.foldl (fun cs (x:Value×Nat)=>cs.setIfInBounds (off+x.2) x.1) C)=j3 C off v'.cells.toList:=by
        rw[←Array.foldl_toList]
        have:=pU v'.cells.toList 0 off C
        simpa using this
       rw[adg]
       exact tR oi (LR.setFrom Q_ hc off) h
     · simp at h
theorem K2 {φ:Ph} {t:TypeId} {ps:List (Nat×AV)} {v:AV} (h:FI E t ps=some v) {qs:Array (Nat×Value)} (hp:PR φ ps qs.toList):
 ∃v',VR φ v v'∧∀w,(Instr.build t qs).run E.P w= .ok v' w:=by
 unfold FI at h
 split at h
 · simp at h
 rename_i z hz
 obtain ⟨z',yq,js⟩:=ib hz
 split at h
 · rename_i fs hu
   split at h
   · simp at h
   rename_i pl OM
   split at h
   · rename_i cs hf
     simp at h;subst h
     have aaq:∀w,(fs.mapM fun f=>do pure (f.offset,←sizeOf f.type):Sem (Array (Nat×Nat))).run E.P w= .ok pl.toArray w:=by
      intro w
      have key:∀(l:List Field) (r:List (Nat×Nat)),eE (fun f=>match b7 E f.type with | some n=>some (f.offset,n) | none=>none) l=some r→
       (l.mapM fun f=>do pure (f.offset,←sizeOf f.type):Sem (List (Nat×Nat))).run E.P w= .ok r w:=by
       intro l
       induction l with
       | nil=>intro r hr;simp [eE] at hr;subst hr;rfl
       | cons f l ih=>
         intro r hr
         simp only[eE] at hr
         cases hs:b7 E f.type with
         | none=>simp [hs] at hr
         | some n=>
           simp only[hs] at hr
           cases hm:eE (fun f=>match b7 E f.type with | some n=>some (f.offset,n) | none=>none) l with
           | none=>simp [hm] at hr
           | some ys=>
             simp only[hm,Option.some.injEq] at hr;subst hr
             simp only[List.mapM_cons,Sem.run_bind,eB hs,Result.andThen_ok,Sem.run_pure,ih ys hm]
      have:=key fs.toList pl OM
      have hh:(fs.mapM fun f=>do pure (f.offset,←sizeOf f.type):Sem (Array (Nat×Nat)))=(do pure (←(fs.toList.mapM fun f=>do pure (f.offset,←sizeOf f.type):Sem (List (Nat×Nat)))).toArray):=by
       rw[Array.mapM_eq_mapM_toList];rfl
      rw[hh,Sem.run_bind,this];rfl
     obtain ⟨C',zG,zH⟩:=tR (place:=(pl[·]?)) hp (cs:=z.cells) (C:=z'.cells) (yq φ).cells hf
     refine ⟨.agg C',by have:=VR.OJ zH;simpa using this,fun w=>?_⟩
     simp only[Instr.build,Sem.run_bind,js,Result.andThen_ok,run_underlying hu,aaq w]
     simp [zG]
   · simp at h
 · rename_i n elem hu
   split at h
   · simp at h
   rename_i n hn
   split at h
   · rename_i cs hf
     simp at h;subst h
     obtain ⟨C',zG,zH⟩:=tR (place:=fun i=>some (i*n,n)) hp (cs:=z.cells) (C:=z'.cells) (yq φ).cells hf
     refine ⟨.agg C',by have:=VR.OJ zH;simpa using this,fun w=>?_⟩
     simp [Instr.build,Sem.run_bind,js,run_underlying hu,eB hn,zG]
   · simp at h
 · simp at h
theorem Ih {φ:Ph}:∀{l:List AV} {x v:AV} (_:KQ x l=some v) {x':Value} (_:VR φ x x') {l':List Value} (_:LR φ l l'),∃v',VR φ v v'∧∀w,(l'.foldlM Builtin.max2 x').run E.P w= .ok v' w
 | [],x,v,h,x',hx,l',hl=>by
   rw[hl.gC]
   cases x<;>simp [KQ] at h
   subst h;exact ⟨x',hx,fun w=>rfl⟩
 | y::ys,x,v,h,x',hx,l',hl=>by
   obtain ⟨y',yp,rfl,hy,uy⟩:=hl.cr
   cases x<;>(try (simp [KQ] at h;done))
   cases y<;>(try (simp [KQ] at h;done))
   cases hx;cases hy
   simp only[KQ] at h
   obtain ⟨v',hv,hr⟩:=Ih h (.int _ _) uy
   refine ⟨v',hv,fun w=>?_⟩
   simp only[List.foldlM_cons,Builtin.max2,Sem.run_bind,Sem.run_pure,Result.andThen_ok,hr w]
theorem Ii {φ:Ph}:∀{l:List AV} {x v:AV} (_:KR x l=some v) {x':Value} (_:VR φ x x') {l':List Value} (_:LR φ l l'),∃v',VR φ v v'∧∀w,(l'.foldlM Builtin.min2 x').run E.P w= .ok v' w
 | [],x,v,h,x',hx,l',hl=>by
   rw[hl.gC]
   cases x<;>simp [KR] at h
   subst h;exact ⟨x',hx,fun w=>rfl⟩
 | y::ys,x,v,h,x',hx,l',hl=>by
   obtain ⟨y',yp,rfl,hy,uy⟩:=hl.cr
   cases x<;>(try (simp [KR] at h;done))
   cases y<;>(try (simp [KR] at h;done))
   cases hx;cases hy
   simp only[KR] at h
   obtain ⟨v',hv,hr⟩:=Ii h (.int _ _) uy
   refine ⟨v',hv,fun w=>?_⟩
   simp only[List.foldlM_cons,Builtin.min2,Sem.run_bind,Sem.run_pure,Result.andThen_ok,hr w]
theorem map_toArray (f:Operand→Value) (l:Array Operand):l.map f=(l.toList.map f).toArray:=by apply Array.ext';simp
def Y2 (E:Env):Prop:=∀f e,E.mn f=some e→∀vs r,e vs=some r→∀φ (qJ:List Value),LR φ vs qJ→
 ∃r',VR φ r r'∧∀w,(callFunc f qJ.toArray).run E.P w= .ok (.value r') w
theorem fb {s:Sem Value} {v:Value} {P:Program} {w w':World} (h:s.run P w= .ok v w'):(do pure (.value (←s)):Sem Next).run P w= .ok (.value v) w':=by
 rw[Sem.run_bind,h];rfl
theorem FU {φ:Ph} (hg:GL E φ) {ts:List AV} {a:Act} (ht:LR φ ts a.tmps.toList) {o:Option Operand} {r:Option AV} (h:mB E ts o=some r):KX φ r (o.map a.eval):=by
 cases o with
 | none=>simp [mB] at h;subst h;trivial
 | some o=>
   simp only[mB] at h
   split at h
   · rename_i v hv;simp at h;subst h;exact nf hg ht hv
   · simp at h
theorem sv {P:Program} {t:TypeId} {d:TypeDesc} (hu:P.underlying t=some d) (hd:∀m,d= .interface m→False) (v:Value) (xT:TypeId) (ok:Bool) (w:World):
 (Instr.typeAssert (.iface t v) xT t ok).run P w= .ok (if ok then .tuple #[v,.bool true] else v) w:=by
 rw[Instr.typeAssert,Sem.run_bind,run_underlying hu]
 cases d<;>first | (exact (hd _ rfl).elim) | (simp;done)
theorem AP {P:Program} {t u:TypeId} {d:TypeDesc} (hu:P.underlying t=some d) (hd:∀m,d= .interface m→False) (v:Value) (xT:TypeId) (dR:u≠t) {z:Value} (w:World) (hz:(zeroValue t).run P w= .ok z w):
 (Instr.typeAssert (.iface u v) xT t true).run P w= .ok (.tuple #[z,.bool false]) w:=by
 rw[Instr.typeAssert,Sem.run_bind,run_underlying hu]
 cases d<;>first | (exact (hd _ rfl).elim) | (simp [dR,hz];done)
theorem By {P:Program} {t:TypeId} {d:TypeDesc} (hu:P.underlying t=some d) (hd:∀m,d= .interface m→False) (xT:TypeId) {z:Value} (w:World) (hz:(zeroValue t).run P w= .ok z w):
 (Instr.typeAssert .nilIface xT t true).run P w= .ok (.tuple #[z,.bool false]) w:=by
 rw[Instr.typeAssert,Sem.run_bind,run_underlying hu]
 cases d<;>first | (exact (hd _ rfl).elim) | (simp [hz];done)
set_option maxHeartbeats 1000000 in
theorem zI (adh:Y2 E) {φ:Ph} (hg:GL E φ) {ts:List AV} {a:Act} (ht:LR φ ts a.tmps.toList) {o:Oper} {v:AV} (h:bH E ts o.op=some v):
 ∃v',VR φ v v'∧∀w,(execOp a.eval o).run E.P w= .ok (.value v') w:=by
 have ev:∀{x:Operand} {v:AV},eh E ts x=some v→VR φ v (a.eval x):=fun h=>nf hg ht h
 unfold execOp
 generalize o.op=op at h ⊢
 unfold bH at h
 split at h
 · exact ⟨_,ev h,fun w=>rfl⟩
 · exact ⟨_,ev h,fun w=>rfl⟩
 ·
  split at h
  · rename_i hc
    have:=ev hc
    generalize kK:a.eval _=cv at this
    cases this
    exact ⟨_,ev h,fun w=>by simp [kK,asBool]⟩
  · rename_i hc
    have:=ev hc
    generalize kK:a.eval _=cv at this
    cases this
    exact ⟨_,ev h,fun w=>by simp [kK,asBool]⟩
  · simp at h
 ·
  rename_i t parts
  split at h
  · rename_i ps QE
    have hp:=yz hg ht QE
    obtain ⟨v',hv,hr⟩:=K2 (φ:=φ) h (qs:=parts.map fun (i,x)=>(i,a.eval x)) (by simpa using hp)
    exact ⟨v',hv,fun w=>fb (hr w)⟩
  · simp at h
 ·
  split at h<;>(try (simp at h;done))
  all_goals
   rename_i hx
   have:=ev hx
   generalize kK:a.eval _=cv at this
   cases this
   simp only[Option.some.injEq] at h;subst h
   first
    | exact ⟨_,.ptr _ ‹_›,fun w=>by simp [kK]⟩
    | exact ⟨_,.map ‹_›,fun w=>by simp [kK]⟩
    | exact ⟨_,.slice _ _ _ _ ‹_›,fun w=>by simp [kK]⟩
    | exact ⟨_,.func _ _ _ _ _ ‹_› ‹_› ‹_› ‹_›,fun w=>by simp [kK]⟩
 ·
  split at h
  · rename_i hx hy
    obtain ⟨v',hv,hr⟩:=Q9 h (ev hx) (ev hy)
    exact ⟨v',hv,fun w=>fb (hr w)⟩
  · simp at h
 ·
  split at h
  · rename_i hx
    obtain ⟨v',hv,hr⟩:=Wo (E:=E) h (ev hx)
    exact ⟨v',hv,fun w=>fb (hr w)⟩
  · simp at h
 ·
  split at h
  · rename_i hs hd hx
    have:=ev hx
    generalize kK:a.eval _=cv at this
    cases this
    simp at h;subst h
    refine ⟨_,.int _ _,fun w=>fb ?_⟩
    simp [kK,convert,run_underlying hs,run_underlying hd,Conv.intToInt]
  · rename_i d s hs hd hx
    have:=ev hx
    generalize kK:a.eval _=cv at this
    simp at h;subst h
    generalize K3:s=s0 at this
    cases this
    subst K3
    refine ⟨_,.str _,fun w=>fb ?_⟩
    simp [kK,convert,run_underlying hs,run_underlying hd]
  · rename_i d k n hs hd hx
    have:=ev hx
    generalize kK:a.eval _=cv at this
    cases this
    unfold M4 at h
    split at h
    · rename_i h0
      simp at h;subst h
      have he:Utf8.encode n=⟨#[UInt8.ofNat n.toNat]⟩:=by
       have hv:Utf8.valid n=true:=by simp [Utf8.valid];omega
       have h1:n.toNat<0x80:=by omega
       simp [Utf8.encode,hv,h1]
      refine ⟨.string ⟨#[UInt8.ofNat n.toNat]⟩,.str ⟨#[UInt8.ofNat n.toNat]⟩,fun w=>fb ?_⟩
      rw[←he]
      cases d<;>simp [kK,convert,run_underlying hs,run_underlying hd,Conv.intToString]
    · simp at h
  · simp at h
 ·
  split at h
  · simp at h
  · rename_i d v0 hn hu hx
    simp at h;subst h
    refine ⟨_,.iface _ _ _ (ev hx),fun w=>fb ?_⟩
    rw[Instr.makeInterface,Sem.run_bind,run_underlying hu]
    cases d<;>first | (exact (hn _ rfl).elim) | rfl
  · simp at h
 ·
  rename_i f first captured
  split at h
  · rename_i ha hb
    simp at h;subst h
    have h1:=ia hg ht ha
    have h2:=ia hg ht hb
    refine ⟨.func (.func f) (first.map a.eval) (captured.map a.eval),?_,fun w=>fb rfl⟩
    rw[map_toArray,map_toArray]
    exact VR.Q1 f h1 h2
  · simp at h
 ·
  split at h
  · rename_i hx hl hh hm
    obtain ⟨v',hv,hr⟩:=KZ h (ev hx) (FU hg ht hl) (FU hg ht hh) (FU hg ht hm)
    exact ⟨v',hv,fun w=>fb (hr w)⟩
  · simp at h
 ·
  split at h
  · rename_i fd i o0 hf hx
    split at h
    · rename_i n hn
      split at h
      · simp at h
      · rename_i M9
        simp at h;subst h
        have:=ev hx
        generalize kK:a.eval _=cv at this
        cases this with
        | @ptr _ l _ hφ=>
        refine ⟨_,.ptr _ hφ,fun w=>fb ?_⟩
        unfold mC at hf
        split at hf
        · rename_i fs hu
          simp [kK,Instr.fieldAt,run_underlying hu,hf,Instr.sureAddr,fieldPlace,eB hn,M9,tQ,Nat.add_assoc]
        · simp at hf
    · simp at h
  · simp at h
 ·
  split at h
  · rename_i fd cs hf hx
    have:=ev hx
    generalize kK:a.eval _=cv at this
    obtain ⟨iw,rfl,zH⟩:=this.jN
    obtain ⟨v',hv,hr⟩:=nU zH h
    refine ⟨v',hv,fun w=>fb ?_⟩
    unfold mC at hf
    split at hf
    · rename_i fs hu
      have:=hr w
      simp [kK,Instr.field,run_underlying hu,hf,asAgg] at this ⊢
      exact this
    · simp at hf
  · simp at h
 ·
  split at h
  · rename_i len elem i o0 k n hu hx hi
    split at h
    · rename_i size hs
      split at h
      · rename_i hb
        simp at h;subst h
        have h1:=ev hx
        have h2:=ev hi
        generalize kK:a.eval _=cv at h1
        generalize hcw:a.eval _=cw at h2
        cases h1 with
        | @ptr _ l _ hφ=>
        cases h2
        refine ⟨_,.ptr _ hφ,fun w=>fb ?_⟩
        simp [kK,hcw,Instr.indexAt,asIntOf,run_underlying hu,Instr.sureAddr,hb,eB hs,tQ,Nat.add_assoc]
      · simp at h
    · simp at h
  · rename_i elem i o0 len cap op k n hu hx hi
    split at h
    · rename_i size hs
      split at h
      · rename_i hb
        simp at h;subst h
        have h1:=ev hx
        have h2:=ev hi
        generalize kK:a.eval _=cv at h1
        generalize hcw:a.eval _=cw at h2
        cases h1 with
        | @slice _ l _ _ _ _ hφ=>
        cases h2
        refine ⟨_,.ptr _ hφ,fun w=>fb ?_⟩
        simp [kK,hcw,Instr.indexAt,asIntOf,run_underlying hu,hb,eB hs,tQ,Nat.add_assoc]
      · simp at h
    · simp at h
  · simp at h
 ·
  split at h
  · rename_i len elem cs k n hu hx hi
    split at h
    · rename_i size hs
      split at h
      · rename_i hb
        have h1:=ev hx
        have h2:=ev hi
        generalize kK:a.eval _=cv at h1
        generalize hcw:a.eval _=cw at h2
        obtain ⟨iw,rfl,zH⟩:=h1.jN
        cases h2
        obtain ⟨v',hv,hr⟩:=nU zH h
        refine ⟨v',hv,fun w=>fb ?_⟩
        have:=hr w
        simp [kK,hcw,Instr.index,asIntOf,run_underlying hu,hb,eB hs] at this ⊢
        exact this
      · simp at h
    · simp at h
  · rename_i s k n hu hx hi
    split at h
    · rename_i hn
      split at h
      · rename_i b hb
        simp at h;subst h
        have h1:=ev hx
        have h2:=ev hi
        generalize kK:a.eval _=cv at h1
        generalize hcw:a.eval _=cw at h2
        generalize K3:s=s0 at h1
        cases h1 with
        | str s'=>
        subst K3
        cases h2
        refine ⟨_,.int _ _,fun w=>fb ?_⟩
        have V3:s'[n.toNat]? =some b:=by
         have:s'.data[n.toNat]? =some b:=by simpa using hb
         rw[←this];rfl
        simp [kK,hcw,Instr.index,asIntOf,run_underlying hu,hn,V3]
      · simp at h
    · simp at h
  · simp at h
 ·
  split at h
  · rename_i vs hx
    have h1:=ev hx
    generalize kK:a.eval _=cv at h1
    obtain ⟨qJ,rfl,zH⟩:=h1.Ea
    obtain ⟨y,hy,hv⟩:=zH.get h
    refine ⟨y,hv,fun w=>fb ?_⟩
    simp at hy
    simp [kK,Instr.extract,hy]
  · simp at h
 ·
  split at h
  · simp at h
  · rename_i d t v0 hn hu hx
    have h1:=ev hx
    generalize kK:a.eval _=cv at h1
    cases h1 with
    | iface _ _ v1 hv1=>
    split at h
    · rename_i hta
      subst hta
      simp at h;subst h
      split
      · rename_i jV
        refine ⟨.tuple #[v1,.bool true],VR.tuple' (iw:=[v1,.bool true]) (.cons hv1 (.cons (.bool true) (.nil φ))),fun w=>fb ?_⟩
        rw[kK,sv hu hn,jV];rfl
      · rename_i jV
        refine ⟨v1,hv1,fun w=>fb ?_⟩
        rw[kK,sv hu hn];simp [jV]
    · rename_i hta
      split at h
      · rename_i jV
        split at h
        · rename_i z hz
          simp at h;subst h
          obtain ⟨z',yq,js⟩:=ib hz
          refine ⟨.tuple #[z',.bool false],VR.tuple' (iw:=[z',.bool false]) (.cons (yq φ) (.cons (.bool false) (.nil φ))),fun w=>fb ?_⟩
          rw[kK,jV];exact AP hu hn _ _ hta w (js w)
        · simp at h
      · simp at h
  · rename_i d hn hu hx
    have h1:=ev hx
    generalize kK:a.eval _=cv at h1
    cases h1
    split at h
    · rename_i jV
      split at h
      · rename_i z hz
        simp at h;subst h
        obtain ⟨z',yq,js⟩:=ib hz
        refine ⟨.tuple #[z',.bool false],VR.tuple' (iw:=[z',.bool false]) (.cons (yq φ) (.cons (.bool false) (.nil φ))),fun w=>fb ?_⟩
        rw[kK,jV];exact By hu hn _ w (js w)
      · simp at h
    · simp at h
  · simp at h
 ·
  split at h
  · rename_i t v0 QF Ij
    have hl:=ia hg ht Ij
    obtain ⟨y,ys,uy,hy,FV⟩:=hl.cr
    rw[FV.gC] at uy
    have Bz:∀(args:Array Operand),args.toList.map a.eval=[y]→args.map a.eval= #[y]:=fun args e=>by rw[map_toArray,e]
    have h0:=Bz _ uy
    split at h<;>(try (simp at h;done))
    all_goals
     rename_i hu
     simp only[Option.some.injEq] at h;subst h
    · generalize K3:AV.str _=s0 at hy
      cases hy<;>cases K3
      rename_i s'
      refine ⟨_,.int _ _,fun w=>?_⟩
      simp [resolve,invoke,builtin,h0,Builtin.len_,QF,run_underlying hu,goInt]
      try rfl
    · refine ⟨_,.int _ _,fun w=>?_⟩
      simp [resolve,invoke,builtin,h0,Builtin.len_,QF,run_underlying hu,goInt]
    · cases hy
      refine ⟨_,.int _ _,fun w=>?_⟩
      simp [resolve,invoke,builtin,h0,Builtin.len_,QF,run_underlying hu,goInt]
    · cases hy
      refine ⟨_,.int _ _,fun w=>?_⟩
      simp [resolve,invoke,builtin,h0,Builtin.len_,QF,run_underlying hu,goInt]
    · cases hy
      refine ⟨_,.int _ _,fun w=>?_⟩
      simp [resolve,invoke,builtin,h0,Builtin.len_,QF,run_underlying hu,goInt]
    · cases hy
      refine ⟨_,.int _ _,fun w=>?_⟩
      simp [resolve,invoke,builtin,h0,Builtin.len_,QF,run_underlying hu,goInt]
  · simp at h
 ·
  split at h
  · rename_i t v0 QF Ij
    have hl:=ia hg ht Ij
    obtain ⟨y,ys,uy,hy,FV⟩:=hl.cr
    rw[FV.gC] at uy
    have Bz:∀(args:Array Operand),args.toList.map a.eval=[y]→args.map a.eval= #[y]:=fun args e=>by rw[map_toArray,e]
    have h0:=Bz _ uy
    split at h<;>(try (simp at h;done))
    all_goals
     rename_i hu
     simp only[Option.some.injEq] at h;subst h
    · refine ⟨_,.int _ _,fun w=>?_⟩
      simp [resolve,invoke,builtin,h0,Builtin.cap_,QF,run_underlying hu,goInt]
    · cases hy
      refine ⟨_,.int _ _,fun w=>?_⟩
      simp [resolve,invoke,builtin,h0,Builtin.cap_,QF,run_underlying hu,goInt]
    · cases hy
      refine ⟨_,.int _ _,fun w=>?_⟩
      simp [resolve,invoke,builtin,h0,Builtin.cap_,QF,run_underlying hu,goInt,gJ]
  · simp at h
 ·
  rename_i args _
  split at h
  · rename_i x rest Ij
    have hl:=ia hg ht Ij
    obtain ⟨y,ys,uy,hy,oi⟩:=hl.cr
    obtain ⟨v',hv,hr⟩:=Ih (E:=E) h hy oi
    refine ⟨v',hv,fun w=>?_⟩
    have h0:args.map a.eval=(y::ys).toArray:=by rw[map_toArray,uy]
    have:=hr w
    simp [resolve,invoke,builtin,h0,Builtin.max_,this]
  · simp at h
 ·
  rename_i args _
  split at h
  · rename_i x rest Ij
    have hl:=ia hg ht Ij
    obtain ⟨y,ys,uy,hy,oi⟩:=hl.cr
    obtain ⟨v',hv,hr⟩:=Ii (E:=E) h hy oi
    refine ⟨v',hv,fun w=>?_⟩
    have h0:args.map a.eval=(y::ys).toArray:=by rw[map_toArray,uy]
    have:=hr w
    simp [resolve,invoke,builtin,h0,Builtin.min_,this]
  · simp at h
 ·
  rename_i f args _
  split at h
  · rename_i e vs he Ij
    have hl:=ia hg ht Ij
    obtain ⟨r',hr,fU⟩:=adh f e he vs v h φ _ hl
    refine ⟨r',hr,fun w=>?_⟩
    have:=fU w
    rw[←map_toArray] at this
    simpa [resolve,Deferred.ofValue,invoke,Act.eval] using this
  · simp at h
 · simp at h
end Go.Ab
end
section
namespace Go.Ab
variable {E:Env}
theorem FW {P:Program} {t:TypeId} {k:IntKind} (hu:P.underlying t=some (.int k)) (b:Bool) (n:Nat) (v:Value) (w:World):
 (Instr.checkKey b (n+1) t v).run P w= .ok () w:=by
 unfold Instr.checkKey
 rw[Sem.run_bind,run_underlying hu]
 rfl
theorem FX {P:Program} {t:TypeId} (hu:P.underlying t=some .string) (b:Bool) (n:Nat) (v:Value) (w:World):
 (Instr.checkKey b (n+1) t v).run P w= .ok () w:=by
 unfold Instr.checkKey
 rw[Sem.run_bind,run_underlying hu]
 rfl
theorem ph {φ:Ph} {t:TypeId} {d:TypeDesc} {k:AV} (hu:E.P.underlying t=some d) (hk:jJ E (some d) k=true) {k':Value} (h:VR φ k k') (b:Bool) (n:Nat) (w:World):
 (Instr.checkKey b (n+2) t k').run E.P w= .ok () w:=by
 unfold jJ at hk
 split at hk
 · rename_i fs xs hd
   cases hd
   obtain ⟨Be,rfl,Dx⟩:=h.jN
   unfold Instr.checkKey
   rw[Sem.run_bind,run_underlying hu]
   simp only[Result.andThen_ok]
   have key:∀l:List Field,(l.all fun f=>match E.P.underlying f.type,hJ E f.type xs f.offset with
    | some (.int _),some (.int _ _)=>true
    | some .string,some (.str _)=>true
    | _,_=>false)=true→
    (forIn (m:=Sem) l PUnit.unit fun f (_:PUnit)=>if f.name≠ "_" then (do let x←part f.type Be f.offset;Instr.checkKey b (n+1) f.type x;pure (ForInStep.yield PUnit.unit)) else pure (ForInStep.yield PUnit.unit)).run E.P w= .ok PUnit.unit w:=by
    intro l
    induction l with
    | nil=>intro _;rfl
    | cons f l ih=>
      intro ha
      rw[List.all_cons,Bool.and_eq_true] at ha
      obtain ⟨hf,hl⟩:=ha
      have h2:=ih hl
      split at hf
      · rename_i ki kj z e1 e2
        obtain ⟨v',_,hr⟩:=nU Dx e2
        rw[Array.toArray_toList] at hr
        simp only[List.forIn_cons,Sem.run_bind]
        split
        · simp only[Sem.run_bind,hr,Result.andThen_ok,FW e1,Sem.run_pure,h2]
        · simp only[Sem.run_pure,Result.andThen_ok,h2]
      · rename_i z e1 e2
        obtain ⟨v',_,hr⟩:=nU Dx e2
        rw[Array.toArray_toList] at hr
        simp only[List.forIn_cons,Sem.run_bind]
        split
        · simp only[Sem.run_bind,hr,Result.andThen_ok,FX e1,Sem.run_pure,h2]
        · simp only[Sem.run_pure,Result.andThen_ok,h2]
      · cases hf
   have:=key fs.toList hk
   rw[Array.forIn_toList] at this
   first | exact this | (simp only[Sem.run_bind,this];rfl)
 · cases hk
theorem yA {φ:Ph}:∀{xs ys:List AV} {Be yp:List Value},oc xs ys=true→LR φ xs Be→LR φ ys yp→yp=Be∧(yp.zip Be).all (fun (x,y)=>Instr.sameBits 9999 x y)=true
 | [],[],Be,yp,_,h,h'=>by rw[h.gC,h'.gC];exact ⟨rfl,rfl⟩
 | .int k a::xs,.int j b::ys,Be,yp,e,h,h'=>by
   obtain ⟨x,xs2,rfl,hx,Dx⟩:=h.cr
   obtain ⟨y,ys2,rfl,hy,uy⟩:=h'.cr
   simp only[oc,Bool.and_eq_true,decide_eq_true_eq] at e
   obtain ⟨⟨rfl,rfl⟩,e⟩:=e
   cases hx;cases hy
   obtain ⟨h1,h2⟩:=yA e Dx uy
   subst h1
   refine ⟨rfl,?_⟩
   rw[List.zip_cons_cons,List.all_cons,h2,Bool.and_true]
   simp [Instr.sameBits]
 | .str a::xs,.str b::ys,Be,yp,e,h,h'=>by
   obtain ⟨x,xs2,rfl,hx,Dx⟩:=h.cr
   obtain ⟨y,ys2,rfl,hy,uy⟩:=h'.cr
   simp only[oc,Bool.and_eq_true,beq_iff_eq] at e
   obtain ⟨rfl,e⟩:=e
   obtain ⟨h1,h2⟩:=yA e Dx uy
   subst h1
   generalize hq:AV.str a=q at hx hy
   have hxy:y=x:=by
    cases hx with
    | str s1=>
      generalize hr:AV.str s1.data.toList=r at hy
      cases hy with
      | str s2=>
        injection hr with hr
        have:s1.data=s2.data:=Array.toList_inj.1 hr
        cases s1;cases s2;cases this;rfl
      | _=>cases hr
    | _=>cases hq
   subst hxy
   refine ⟨rfl,?_⟩
   rw[List.zip_cons_cons,List.all_cons,h2,Bool.and_true]
   cases hx with
   | str s1=>
     show (s1==s1)=true
     cases s1 with
     | mk d=>show (d==d)=true;simp
   | _=>cases hq
theorem FY {φ:Ph} {xs ys:List AV} (e:oc xs ys=true) {k' j':Value} (h:VR φ (.agg xs) k') (h':VR φ (.agg ys) j'):Instr.sameBits 10000 j' k'=true∧j'=k':=by
 obtain ⟨a,rfl,ha⟩:=h.jN
 obtain ⟨b,rfl,hb⟩:=h'.jN
 obtain ⟨h1,h2⟩:=yA e ha hb
 have hab:b=a:=by cases b;cases a;simp at h1;subst h1;rfl
 subst hab
 refine ⟨?_,rfl⟩
 rw[Instr.sameBits]
 simp only[beq_self_eq_true,Bool.true_and]
 exact h2
def Wr (φ:Ph) (k j:AV):Prop:=∀{k' j':Value},VR φ k k'→VR φ j j'→Instr.sameBits 10000 j' k'=true∧j'=k'
theorem lZ {φ:Ph} {key:TypeId} {k:AV} {k':Value} (h:VR φ k k'):∀{es:List gY} {gD:List MapEntry} (_:Ib φ es gD) {i:Nat} {r:Option (Nat×AV)} (_:findD E key k es i=some r),
 ∃r',(∀w,(Instr.findAsking key k' gD i).run E.P w= .ok r' w)∧(match r,r' with | none,none=>True | some (j,v),some (j',v')=>j=j'∧VR φ v v'∧i≤j∧∃e,es[j - i]? =some e∧Wr φ k e.key | _,_=>False)
 | [],gD,he,i,r,e=>by
   cases gD with
   | nil=>simp [findD] at e;subst e;exact ⟨none,fun w=>rfl,trivial⟩
   | cons _ _=>simp [Ib] at he
 | x::es,gD,he,i,r,e=>by
   obtain ⟨hl,hv⟩:=he
   cases gD with
   | nil=>simp at hl
   | cons y ys=>
     have hx:=hv 0 x y (by simp) (by simp)
     simp only[findD] at e
     split at e
     · rename_i heq
       split at e
       · rename_i zs hz _
         split at e
         · rename_i hs
           simp at e;subst e
           refine ⟨some (i,y.val),fun w=>?_,rfl,hx.val,Nat.le_refl _,x,by simp,?_⟩
           · have q:=oh 16 9984 key _ _ true _ _ heq h hx.key w
             simp only[Instr.findAsking,Sem.run_bind,Op.equal]
             rw[show Op.maxDepth=9984+16 from rfl,q]
             rfl
           · intro a b ha hb
             rw[hz] at hb
             exact FY hs ha hb
         · cases e
       · cases e
     · rename_i heq
       obtain ⟨r',h1,h2⟩:=lZ h (es:=es) (gD:=ys) ⟨by simpa using hl,fun i a b p q=>hv (i+1) a b (by simpa using p) (by simpa using q)⟩ e
       refine ⟨r',fun w=>?_,?_⟩
       · have q:=oh 16 9984 key _ _ false _ _ heq h hx.key w
         simp only[Instr.findAsking,Sem.run_bind,Op.equal]
         rw[show Op.maxDepth=9984+16 from rfl,q]
         exact h1 w
       · cases r with
         | none=>cases r' with
           | none=>trivial
           | some _=>exact h2
         | some p=>
           obtain ⟨j,v⟩:=p
           cases r' with
           | none=>exact h2
           | some q=>
             obtain ⟨j',v'⟩:=q
             obtain ⟨h3,h4,h5,e',h6,h7⟩:=h2
             refine ⟨h3,h4,by omega,e',?_,h7⟩
             rw[show j - i=(j -(i+1))+1 by omega];simpa using h6
     · cases e
theorem jO {φ:Ph} {key:TypeId} {d:TypeDesc} {k:AV} (hd:E.P.underlying key=some d) (hk:jJ E (some d) k=true) {k':Value} (h:VR φ k k') {gD:List MapEntry} {r':Option (Nat×Value)} {w:World} (hr:(Instr.findAsking key k' gD 0).run E.P w= .ok r' w):
 (Instr.findKey key k' gD).run E.P w= .ok r' w:=by
 unfold jJ at hk
 split at hk
 · rename_i fs xs hdd
   cases hdd
   obtain ⟨Be,rfl,Dx⟩:=h.jN
   rw[Instr.findKey,Sem.run_bind,run_underlying hd]
   simp only[Result.andThen_ok]
   cases gD with
   | nil=>exact hr
   | cons y ys=>
     have:Instr.findNow (.struct fs) (.agg Be) (y::ys) 0=none:=rfl
     rw[this]
     exact hr
 · cases hk
end Go.Ab
end
section
namespace Go.Ab
variable {E:Env}
theorem OK.cells {φ:Ph} {h:au} {w:World} (ok:OK E φ h w) {i:Nat} {cs:List AV} {e:TypeId} {ro:Bool} (hg:h.get i=some (.cells cs e ro)) {l:Loc} (hl:φ i=some l):
 ∃C e' lo hi,w.heap[l.dY]? =some (.cells C e' (lo,hi))∧CS E φ cs e ro l C e' lo hi:=by
 exact ok.live i _ l hg hl
theorem Ef {φ:Ph} {h:au} {w:World} (ok:OK E φ h w) {t:TypeId} {av v:AV} {v':Value} (hv:VR φ av v') (e:bG E h t av=some v):
 ∃x',VR φ v x'∧∀w',w'.heap=w.heap→(Instr.loadAt t v').run E.P w'= .ok x' w':=by
 unfold bG at e
 split at e
 · rename_i i o
   cases hv with
   | @ptr _ l _ hφ=>
   split at e
   · rename_i cs el ro hg
     obtain ⟨C,e',lo,hi,hb,hc⟩:=ok.cells hg hφ
     unfold hJ at e
     split at e
     · rename_i ha
       split at e
       · rename_i n hn
         split at e
         · rename_i hle
           simp at e;subst e
           obtain ⟨vs,hvl,DC,zH⟩:=hc.range o n hle
           refine ⟨.agg vs.toArray,VR.OJ zH,fun w' hw'=>?_⟩
           rw[←hw'] at hb
           have BA:=nG (P:=E.P) hb (l.off+o) vs DC
           rw[hvl] at BA
           simp only[Instr.loadAt,Instr.sureAddr,Sem.run_bind,Sem.run_pure,Result.andThen_ok,loadVar,qH ha,if_true,eB hn,BA]
         · simp at e
       · simp at e
     · rename_i ha
       obtain ⟨y,hy,hr⟩:=hc.val o v e
       refine ⟨y,hr,fun w' hw'=>?_⟩
       rw[←hw'] at hb
       simp only[Instr.loadAt,Instr.sureAddr,Sem.run_bind,Sem.run_pure,Result.andThen_ok,loadVar,qH ha,Bool.false_eq_true,if_false,run_load,cell_of_heap hb,hy]
     · simp at e
   · simp at e
 · simp at e
theorem Ik {P:Program} (l:List Int):∀(vs:List Value) (acc:ByteArray) (w:World),vs=l.map (fun n=>Value.int .u8 n)→
 (forIn vs acc (fun c s=>(match c with | .int .u8 n=>do pure (ForInStep.yield (s.push (UInt8.ofNat n.toNat))) | _=>do stuck "bytesToString: byte expected";pure (ForInStep.yield s):Sem (ForInStep ByteArray)))).run P w= .ok ⟨(acc.data.toList++l.map (fun n=>UInt8.ofNat n.toNat)).toArray⟩ w:=by
 induction l with
 | nil=>intro vs acc w h;simp at h;subst h;simp [List.forIn_nil]
 | cons b l ih=>
   intro vs acc w h
   cases vs with
   | nil=>simp at h
   | cons v vs=>
     simp at h
     obtain ⟨rfl,Ij⟩:=h
     simp only[List.forIn_cons,Sem.run_bind,Sem.run_pure,Result.andThen_ok]
     rw[ih vs _ w Ij]
     simp [ByteArray.push]
theorem Eg {φ:Ph} {d:TypeDesc} {k j:AV} {r:Bool} (hk:iE (some d) k=true) (e:D7 k j=some r) {k' j':Value} (h:VR φ k k') (h':VR φ j j'):Instr.sameNow d k' j'=some r:=by
 unfold D7 at e
 split at e
 · generalize hs:AV.str _=s at h
   generalize qI:AV.str _=s' at h'
   cases h<;>cases hs
   cases h'<;>cases qI
   simp at e;subst e
   cases d<;>simp [iE] at hk
   rename_i s s'
   simp only[Instr.sameNow]
   congr 1
 · cases h;cases h'
   split at e
   · rename_i yr
     simp at e;subst e;subst yr
     cases d<;>simp [iE] at hk
     simp [Instr.sameNow]
   · simp at e
 · cases h;cases h'
   simp at e;subst e
   cases d<;>simp [iE] at hk
   simp [Instr.sameNow]
 · simp at e
theorem pV {φ:Ph} {d:TypeDesc} {k:AV} {k':Value} (hk:iE (some d) k=true) (h:VR φ k k'):∀{es:List gY} {gD:List MapEntry} (_:Ib φ es gD) {i:Nat} {r:Option (Nat×AV)} (_:sb k es i=some r),
 ∃r',Instr.findNow d k' gD i=some r'∧(match r,r' with | none,none=>True | some (j,v),some (j',v')=>j=j'∧VR φ v v'∧i≤j∧∃e,es[j - i]? =some e∧D7 k e.key=some true | _,_=>False)
 | [],gD,he,i,r,e=>by
   cases gD with
   | nil=>simp [sb] at e;subst e;exact ⟨none,rfl,trivial⟩
   | cons _ _=>simp [Ib] at he
 | x::es,gD,he,i,r,e=>by
   obtain ⟨hl,hv⟩:=he
   cases gD with
   | nil=>simp at hl
   | cons y ys=>
     have hx:=hv 0 x y (by simp) (by simp)
     simp only[sb] at e
     split at e
     · rename_i heq
       simp at e;subst e
       refine ⟨some (i,y.val),?_,rfl,hx.val,Nat.le_refl _,x,by simp,heq⟩
       simp [Instr.findNow,Eg hk heq h hx.key]
     · rename_i heq
       obtain ⟨r',h1,h2⟩:=pV hk h (es:=es) (gD:=ys) ⟨by simpa using hl,fun i a b p q=>hv (i+1) a b (by simpa using p) (by simpa using q)⟩ e
       refine ⟨r',?_,?_⟩
       · simp [Instr.findNow,Eg hk heq h hx.key,h1]
       · cases r with
         | none=>cases r' with
           | none=>trivial
           | some _=>exact h2
         | some p=>
           obtain ⟨j,v⟩:=p
           cases r' with
           | none=>exact h2
           | some q=>
             obtain ⟨j',v'⟩:=q
             obtain ⟨h3,h4,h5,e',h6,h7⟩:=h2
             refine ⟨h3,h4,by omega,e',?_,h7⟩
             rw[show j - i=(j -(i+1))+1 by omega];simpa using h6
     · simp at e
theorem qK {P:Program} {t:TypeId} {d:TypeDesc} (hu:P.underlying t=some d) {k:AV} (hk:iE (some d) k=true) {φ:Ph} {k':Value} (h:VR φ k k') (b:Bool) (n:Nat) (w:World):
 (Instr.checkKey b (n+1) t k').run P w= .ok () w:=by
 unfold Instr.checkKey
 rw[Sem.run_bind,run_underlying hu]
 cases d<;>simp [iE] at hk<;>cases h<;>first | rfl | (simp [iE] at hk)
theorem wq {P:Program} {w:World} {a:Addr} {n:Nat} (l:List Int) (hl:(loadCells a n).run P w= .ok ((l.map (fun n=>Value.int .u8 n)).toArray) w) (c:Nat):
 (Conv.bytesToString (.slice (some a) n c)).run P w= .ok (.string ⟨(l.map (fun n=>UInt8.ofNat n.toNat)).toArray⟩) w:=by
 unfold Conv.bytesToString
 simp only[Sem.run_bind,hl,Result.andThen_ok]
 have:=Ik (P:=P) l (l.map (fun n=>Value.int .u8 n)) ByteArray.empty w rfl
 have e:forIn (m:=Sem) (l.map (fun n=>Value.int .u8 n)).toArray ByteArray.empty (fun c s=>(match c with | .int .u8 n=>do pure (ForInStep.yield (s.push (UInt8.ofNat n.toNat))) | _=>do stuck "bytesToString: byte expected";pure (ForInStep.yield s):Sem (ForInStep ByteArray)))
  =forIn (m:=Sem) (l.map (fun n=>Value.int .u8 n)) ByteArray.empty (fun c s=>(match c with | .int .u8 n=>do pure (ForInStep.yield (s.push (UInt8.ofNat n.toNat))) | _=>do stuck "bytesToString: byte expected";pure (ForInStep.yield s):Sem (ForInStep ByteArray))):=by
  rw[←Array.forIn_toList]
 rw[←e] at this
 refine (congrArg (fun r=>Result.andThen r fun a w'=>Sem.run P (pure (Value.string a)) w') this).trans ?_
 simp
theorem zJ {φ:Ph}:∀{cs:List AV} {vs:List Value} (_:LR φ cs vs) {l:List UInt8} (_:eE (fun | .int .u8 b=>some (UInt8.ofNat b.toNat) | _=>none) cs=some l),
 ∃ns:List Int,vs=ns.map (fun n=>Value.int .u8 n)∧l=ns.map (fun n=>UInt8.ofNat n.toNat)
 | [],vs,hv,l,h=>by rw[hv.gC];simp [eE] at h;subst h;exact ⟨[],rfl,rfl⟩
 | c::cs,vs,hv,l,h=>by
   obtain ⟨y,ys,rfl,hy,uy⟩:=hv.cr
   simp only[eE] at h
   split at h
   · simp at h
   · rename_i b hb
     split at h
     · simp at h
     · rename_i bs hbs
       simp at h;subst h
       obtain ⟨ns,rfl,rfl⟩:=zJ uy hbs
       split at hb
       · cases hy
         simp at hb;subst hb
         exact ⟨_::ns,rfl,rfl⟩
       · simp at hb
structure Entries (P:Program) (x:Value) (es:Array MapEntry) (w:World):Prop where
 is:(x= .map none∧es= #[])∨∃r clock,x= .map (some r)∧w.heap[r]? =some (.map es clock)
theorem BD {P:Program} {t key elem:TypeId} (hu:P.underlying t=some (.map key elem)) {x k:Value} {es:Array MapEntry} {w:World} (yB:Entries P x es w)
 {d:TypeDesc} (hd:P.underlying key=some d) (FZ:∀b n,(Instr.checkKey b (n+1) key k).run P w= .ok () w) {r:Option (Nat×Value)} (hf:Instr.findNow d k es.toList 0=some r) {z:Value} (hz:r=none→(zeroValue elem).run P w= .ok z w) (ok:Bool):
 (Instr.lookup t x k ok).run P w= .ok (match r with | some (_,v)=>if ok then .tuple #[v,.bool true] else v | none=>if ok then .tuple #[z,.bool false] else z) w:=by
 have ON:=fun b=>FZ b 9999
 rw[Instr.lookup]
 simp only[Sem.run_bind,run_underlying hu,Result.andThen_ok]
 rcases yB.is with ⟨rfl,rfl⟩ | ⟨b,clock,rfl,hb⟩
 · simp only[Sem.run_bind,Sem.run_pure,Result.andThen_ok,ON,Instr.findKey,run_underlying hd,hf]
   cases r with
   | none=>simp [hz rfl]
   | some q=>simp
 · have zK:(getObj b).run P w= .ok (.map es clock) w:=by simp [getObj,Sem.run,hb]
   simp only[Sem.run_bind,Sem.run_pure,Result.andThen_ok,zK,ON,Instr.findKey,run_underlying hd,hf]
   cases r with
   | none=>simp [hz rfl]
   | some q=>simp
theorem zL {P:Program} {t key elem:TypeId} (hu:P.underlying t=some (.map key elem)) {x k:Value} {es:Array MapEntry} {w:World} (yB:Entries P x es w)
 (FZ:∀b,(Instr.checkKey b 10000 key k).run P w= .ok () w) {r:Option (Nat×Value)} (hf:(Instr.findKey key k es.toList).run P w= .ok r w) {z:Value} (hz:r=none→(zeroValue elem).run P w= .ok z w) (ok:Bool):
 (Instr.lookup t x k ok).run P w= .ok (match r with | some (_,v)=>if ok then .tuple #[v,.bool true] else v | none=>if ok then .tuple #[z,.bool false] else z) w:=by
 rw[Instr.lookup]
 simp only[Sem.run_bind,run_underlying hu,Result.andThen_ok]
 rcases yB.is with ⟨rfl,rfl⟩ | ⟨b,clock,rfl,hb⟩
 · simp only[Sem.run_bind,Sem.run_pure,Result.andThen_ok,FZ,hf]
   cases r with
   | none=>simp [hz rfl]
   | some q=>simp
 · have zK:(getObj b).run P w= .ok (.map es clock) w:=by simp [getObj,Sem.run,hb]
   simp only[Sem.run_bind,Sem.run_pure,Result.andThen_ok,zK,FZ,hf]
   cases r with
   | none=>simp [hz rfl]
   | some q=>simp
theorem zM {φ:Ph} (hg:GL E φ) {h:au} {w:World} (ok:OK E φ h w) {ts:List AV} {a:Act} (ht:LR φ ts a.tmps.toList) {o:Oper} {v:AV} (e:dP E ts h o.op=some v):
 ∃v',VR φ v v'∧∀w',w'.heap=w.heap→(execOp a.eval o).run E.P w'= .ok (.value v') w':=by
 have ev:∀{x:Operand} {v:AV},eh E ts x=some v→VR φ v (a.eval x):=fun h=>nf hg ht h
 unfold execOp
 generalize o.op=op at e ⊢
 unfold dP at e
 split at e
 ·
  split at e
  · rename_i hx
    obtain ⟨x',hx',hr⟩:=Ef ok (ev hx) e
    exact ⟨x',hx',fun w' hw=>fb (hr w' hw)⟩
  · simp at e
 ·
  split at e
  · rename_i el v0 hs hd hx
    split at e
    · rename_i he
      simp at e;subst e
      have h1:=ev hx
      generalize kK:a.eval _=cv at h1
      cases h1
      refine ⟨.string .empty,VR.str .empty,fun w' _=>fb ?_⟩
      simp [kK,convert,run_underlying hs,run_underlying hd,run_underlying he,Conv.bytesToString]
    · rename_i i o len _ _ he
      split at e
      · rename_i l hb
        simp at e;subst e
        have h1:=ev hx
        generalize kK:a.eval _=cv at h1
        cases h1 with
        | @slice _ lc _ _ _ _ hφ=>
        unfold FJ at hb
        split at hb
        · rename_i cs el' ro hgc
          split at hb
          · rename_i hle
            obtain ⟨C,e',lo,hi,hbk,hc⟩:=ok.cells hgc hφ
            obtain ⟨vs,hvl,DC,zH⟩:=hc.range o len hle
            obtain ⟨ns,rfl,rfl⟩:=zJ zH hb
            refine ⟨.string ⟨(ns.map (fun n=>UInt8.ofNat n.toNat)).toArray⟩,?_,fun w' hw'=>fb ?_⟩
            · have:=VR.str (φ:=φ) ⟨(ns.map (fun n=>UInt8.ofNat n.toNat)).toArray⟩
              simpa using this
            · rw[←hw'] at hbk
              have BA:=nG (P:=E.P) hbk (lc.off+o) _ DC
              rw[hvl] at BA
              have:=wq ns BA (gJ ‹_› ‹_› lc.iy)
              rw[kK]
              simp only[convert,Sem.run_bind,run_underlying hs,run_underlying hd,Result.andThen_ok,run_underlying he]
              exact this
          · simp at hb
        · simp at hb
      · simp at e
    · simp at e
  · simp at e
 ·
  rename_i t x ix gS
  split at e
  · rename_i key elem m k hu hm hk
    split at e
    · rename_i yr
      have F0:∃d,E.P.underlying key=some d∧iE (some d) k=true:=by
       cases hd:E.P.underlying key with
       | none=>rw[hd] at yr;simp [iE] at yr
       | some d=>rw[hd] at yr;exact ⟨d,rfl,yr⟩
      obtain ⟨d,hd,yC⟩:=F0
      have Ws:=ev hm
      have Q':=ev hk
      split at e
      · simp at e
      · rename_i es yB
        have vp:∃gD:Array MapEntry,Ib φ es gD.toList∧∀w',w'.heap=w.heap→Entries E.P (a.eval x) gD w':=by
         split at yB
         · simp at yB;subst yB
           generalize kK:a.eval x=cv at Ws
           cases Ws
           exact ⟨#[],⟨rfl,fun i x y p _=>by simp at p⟩,fun w' _=>⟨.inl ⟨rfl,rfl⟩⟩⟩
         · rename_i i
           split at yB
           · rename_i es0 clock hgm
             simp at yB;subst yB
             generalize kK:a.eval x=cv at Ws
             cases Ws with
             | @map _ l hφ=>
             have Bf:=ok.live i _ l hgm hφ
             obtain ⟨HW,gD,hb,gK⟩:=Bf
             exact ⟨gD,gK,fun w' hw=>⟨.inr ⟨l.dY,clock,rfl,by rw[hw];exact hb⟩⟩⟩
           · simp at yB
         · simp at yB
        obtain ⟨gD,gK,fU⟩:=vp
        split at e
        · simp at e
        · rename_i j v0 hf
          obtain ⟨r',h1,h2⟩:=pV yC Q' gK hf
          cases r' with
          | none=>exact h2.elim
          | some q=>
          obtain ⟨j',v'⟩:=q
          obtain ⟨_,DC,_⟩:=h2
          simp at e;subst e
          refine ⟨if gS then .tuple #[v',.bool true] else v',?_,fun w' hw=>fb ?_⟩
          · split
            · exact VR.tuple' (iw:=[v',.bool true]) (.cons DC (.cons (.bool true) (.nil φ)))
            · exact DC
          · exact BD hu (fU w' hw) hd (fun b n=>qK hd yC Q' b n w') h1 (z:=undef) (fun e=>by simp at e) gS
        · rename_i hf
          obtain ⟨r',h1,h2⟩:=pV yC Q' gK hf
          cases r' with
          | some q=>exact h2.elim
          | none=>
          split at e
          · rename_i z hz
            simp at e;subst e
            obtain ⟨z',yq,js⟩:=ib hz
            refine ⟨if gS then .tuple #[z',.bool false] else z',?_,fun w' hw=>fb ?_⟩
            · split
              · exact VR.tuple' (iw:=[z',.bool false]) (.cons (yq φ) (.cons (.bool false) (.nil φ)))
              · exact yq φ
            · exact BD hu (fU w' hw) hd (fun b n=>qK hd yC Q' b n w') h1 (fun _=>js w') gS
          · simp at e
    · split at e
      · rename_i yr
        have F0:∃d,E.P.underlying key=some d∧jJ E (some d) k=true:=by
         cases hd:E.P.underlying key with
         | none=>rw[hd] at yr;simp [jJ] at yr
         | some d=>rw[hd] at yr;exact ⟨d,rfl,yr⟩
        obtain ⟨d,hd,yC⟩:=F0
        have Ws:=ev hm
        have Q':=ev hk
        split at e
        · simp at e
        · rename_i es yB
          have vp:∃gD:Array MapEntry,Ib φ es gD.toList∧∀w',w'.heap=w.heap→Entries E.P (a.eval x) gD w':=by
           split at yB
           · simp at yB;subst yB
             generalize kK:a.eval x=cv at Ws
             cases Ws
             exact ⟨#[],⟨rfl,fun i x y p _=>by simp at p⟩,fun w' _=>⟨.inl ⟨rfl,rfl⟩⟩⟩
           · rename_i i
             split at yB
             · rename_i es0 clock hgm
               simp at yB;subst yB
               generalize kK:a.eval x=cv at Ws
               cases Ws with
               | @map _ l hφ=>
               have Bf:=ok.live i _ l hgm hφ
               obtain ⟨HW,gD,hb,gK⟩:=Bf
               exact ⟨gD,gK,fun w' hw=>⟨.inr ⟨l.dY,clock,rfl,by rw[hw];exact hb⟩⟩⟩
             · simp at yB
           · simp at yB
          obtain ⟨gD,gK,fU⟩:=vp
          split at e
          · simp at e
          · rename_i j v0 hf
            obtain ⟨r',h1,h2⟩:=lZ Q' gK hf
            cases r' with
            | none=>exact h2.elim
            | some q=>
            obtain ⟨j',v'⟩:=q
            obtain ⟨_,DC,_⟩:=h2
            simp at e;subst e
            refine ⟨if gS then .tuple #[v',.bool true] else v',?_,fun w' hw=>fb ?_⟩
            · split
              · exact VR.tuple' (iw:=[v',.bool true]) (.cons DC (.cons (.bool true) (.nil φ)))
              · exact DC
            · exact zL hu (fU w' hw) (fun b=>ph hd yC Q' b 9998 w') (jO hd yC Q' (h1 w')) (z:=undef) (fun e=>by simp at e) gS
          · rename_i hf
            obtain ⟨r',h1,h2⟩:=lZ Q' gK hf
            cases r' with
            | some q=>exact h2.elim
            | none=>
            split at e
            · rename_i z hz
              simp at e;subst e
              obtain ⟨z',yq,js⟩:=ib hz
              refine ⟨if gS then .tuple #[z',.bool false] else z',?_,fun w' hw=>fb ?_⟩
              · split
                · exact VR.tuple' (iw:=[z',.bool false]) (.cons (yq φ) (.cons (.bool false) (.nil φ)))
                · exact yq φ
              · exact zL hu (fU w' hw) (fun b=>ph hd yC Q' b 9998 w') (jO hd yC Q' (h1 w')) (fun _=>js w') gS
            · simp at e
      · simp at e
  · simp at e
 ·
  split at e
  · rename_i t i QF Ij
    have hl:=ia hg ht Ij
    obtain ⟨y,ys,uy,hy,FV⟩:=hl.cr
    rw[FV.gC] at uy
    have h0:∀(args:Array Operand),args.toList.map a.eval=[y]→args.map a.eval= #[y]:=fun args e=>by rw[map_toArray,e]
    have h0:=h0 _ uy
    cases hy with
    | @map _ l hφ=>
    split at e
    · rename_i es clock hu hgm
      simp at e;subst e
      have Bf:=ok.live i _ l hgm hφ
      obtain ⟨HW,gD,hb,hlen,_⟩:=Bf
      refine ⟨_,.int _ _,fun w' hw=>?_⟩
      rw[←hw] at hb
      have zK:(getObj l.dY).run E.P w'= .ok (.map gD clock) w':=by simp [getObj,Sem.run,hb]
      simp [resolve,invoke,builtin,h0,Builtin.len_,QF,run_underlying hu,goInt,zK,hlen]
    · simp at e
  · simp at e
 · simp at e
end Go.Ab
end
section
namespace Go.Ab
variable {E:Env}
theorem wu (z:List AV):∀(n i:Nat),i<n*z.length→(et z n)[i]? =z[i%z.length]?
 | 0,i,h=>by omega
 | n+1,i,h=>by
   rw[et]
   by_cases hi:i<z.length
   · rw[List.getElem?_append_left hi,Nat.mod_eq_of_lt hi]
   · rw[List.getElem?_append_right (by omega),wu z n (i - z.length) (by rw[Nat.add_mul] at h;omega)]
     rw[Nat.mod_eq_sub_mod (a:=i) (by omega)]
theorem ng (z:List AV):∀n,(et z n).length=n*z.length
 | 0=>by simp [et]
 | n+1=>by rw[et,List.length_append,ng z n,Nat.add_mul];omega
theorem K4 {φ:Ph} {z:List AV} {z':Array Value} (h:LR φ z z'.toList) (n:Nat):LR φ (et z n) ((Array.range (n*z'.size)).map (fun i=>z'[i%z'.size]!)).toList:=by
 have hl:z.length=z'.size:=by simpa using h.1
 refine ⟨by rw[ng];simp [hl],fun i x y hx hy=>?_⟩
 have hi:i<n*z.length:=by
  have:=(List.getElem?_eq_some_iff.1 hx).1
  rwa [ng] at this
 rw[wu z n i hi] at hx
 obtain ⟨v,hv,hr⟩:=h.get hx
 have aar:0<z'.size:=by
  rcases Nat.eq_zero_or_pos z'.size with h0 | h0
  · rw[hl,h0] at hi;omega
  · exact h0
 have:i%z'.size<z'.size:=Nat.mod_lt _ aar
 rw[hl] at hi
 simp [hi] at hy
 rw[hl] at hv
 simp [this] at hv
 simp [this] at hy
 rw[←hy,hv];exact hr
structure Made (E:Env) (φ:Ph) (obj:a_) (mk:Nat→AV) (O:Obj) (mk':Nat→Value):Prop where
 val:∀(φ':Ph) (i b:Nat),φ.le φ'→φ' i=some ⟨b,0,0⟩→VR φ' (mk i) (mk' b)
 obj:∀(φ':Ph) (b:Nat),φ.le φ'→OR E φ' obj ⟨b,0,0⟩ (some O)
theorem wv {φ φ':Ph} (hle:φ.le φ') {cs:List AV} {C:Array Value} (h:LR φ cs C.toList) (t:TypeId) (b:Nat):OR E φ' (.cells cs t false) ⟨b,0,0⟩ (some (.cells C t)):=by
 refine ⟨C,t,0,0,rfl,⟨?_,fun k x hk=>?_,fun _ k _ _=>by omega,fun _ _ _=>rfl⟩,fun _=>⟨rfl,rfl,fun _ _ _=>by have:=h.1;simp at this;exact this.symm⟩⟩
 · have:=h.1;simp at this;simp [ft,this]
 · obtain ⟨y,hy,hr⟩:=h.get hk
   exact ⟨y,by simpa using hy,hr.mono hle⟩
set_option linter.unusedSimpArgs false in
set_option maxHeartbeats 1000000 in
theorem wx {φ:Ph} (hg:GL E φ) {ts:List AV} {a:Act} (ht:LR φ ts a.tmps.toList) {o:Oper} {obj:a_} {mk:Nat→AV} (e:ei E ts o.op=some (obj,mk)):
 ∃O mk',Made E φ obj mk O mk'∧∀w,(execOp a.eval o).run E.P w= .ok (.value (mk' w.heap.size)) (w.alloc O):=by
 have ev:∀{x:Operand} {v:AV},eh E ts x=some v→VR φ v (a.eval x):=fun h=>nf hg ht h
 unfold execOp
 generalize o.op=op at e ⊢
 unfold ei at e
 split at e
 ·
  rename_i t
  split at e
  · rename_i z hz
    simp at e;obtain ⟨rfl,rfl⟩:=e
    obtain ⟨z',yq,js⟩:=ib hz
    refine ⟨.cells z'.cells t,fun b=> .pointer (some ⟨b,0,none⟩),⟨fun φ' i b _ hi=>by have:=VR.ptr (φ:=φ') 0 hi;simpa using this,fun φ' b hle=>wv hle (yq φ).cells _ b⟩,fun w=>fb ?_⟩
    simp [Instr.alloc,js,newVar,newRow]
  · simp at e
 ·
  rename_i t x
  split at e
  · rename_i v hv
    simp at e;obtain ⟨rfl,rfl⟩:=e
    refine ⟨.cells (a.eval x).cells t,fun b=> .pointer (some ⟨b,0,none⟩),⟨fun φ' i b _ hi=>by have:=VR.ptr (φ:=φ') 0 hi;simpa using this,fun φ' b hle=>wv hle (ev hv).cells _ b⟩,fun w=>fb ?_⟩
    simp [Instr.box,newVar,newRow]
  · simp at e
 ·
  rename_i t len parts
  split at e
  · rename_i elem hu
    split at e
    · rename_i n z ps hn hz QE
      split at e
      · rename_i hc
        split at e
        · rename_i cs hf
          simp at e;obtain ⟨rfl,rfl⟩:=e
          obtain ⟨z',yq,js⟩:=ib hz
          have hp:=yz hg ht QE
          have hzl:z'.cells.size=n:=by have:=(yq φ).cells.1;simp at this;omega
          have Ra:=K4 (yq φ).cells len
          rw[hzl] at Ra
          obtain ⟨C',zG,zH⟩:=tR (place:=fun i=>some (i*n,n)) (qs:=(parts.map fun (i,x)=>(i,a.eval x)).toList) (by simpa using hp) Ra hf
          refine ⟨.cells C' elem,fun b=> .slice (some ⟨b,0,none⟩) len len,⟨fun φ' i b _ hi=>by have:=VR.slice (φ:=φ') 0 len len false hi;simpa [gJ] using this,fun φ' b hle=>wv hle zH _ b⟩,fun w=>fb ?_⟩
          have h24:¬len*n>2^24:=by omega
          simp only[Instr.buildSlice,Sem.run_bind,run_underlying hu,Result.andThen_ok,eB hn,h24,if_false,Sem.run_pure]
          by_cases h0:len*n=0
          · simp only[h0,if_true,Sem.run_pure,Result.andThen_ok]
            rw[h0] at zG
            have r0:Array.range 0= #[]:=rfl
            simp [r0] at zG
            simp [zG,newRow,r0]
          · simp only[h0,if_false,Sem.run_bind,js,Result.andThen_ok,Sem.run_pure]
            rw[hzl]
            simp only[zG]
            simp [newRow]
        · simp at e
      · simp at e
    · simp at e
  · simp at e
 ·
  rename_i t lo co
  split at e
  · rename_i elem k len k' cap hu hl hc
    split at e
    · rename_i n bytes z hn hb hz
      split at e
      · rename_i K0
        obtain ⟨c1,c2,c3,c4,c5⟩:=K0
        simp at e;obtain ⟨rfl,rfl⟩:=e
        obtain ⟨z',yq,js⟩:=ib hz
        have hzl:z'.cells.size=n:=by have:=(yq φ).cells.1;simp at this;omega
        have Ra:=K4 (yq φ).cells cap.toNat
        rw[hzl] at Ra
        have h1:=ev hl
        have h2:=ev hc
        generalize Rb:a.eval lo=lv at h1
        generalize kK:a.eval co=cv at h2
        cases h1;cases h2
        refine ⟨.cells ((Array.range (cap.toNat*n)).map (fun i=>z'.cells[i%n]!)) elem,fun b=> .slice (some ⟨b,0,none⟩) len.toNat cap.toNat,
         ⟨fun φ' i b _ hi=>by have:=VR.slice (φ:=φ') 0 len.toNat cap.toNat false hi;simpa [gJ] using this,fun φ' b hle=>wv hle Ra _ b⟩,fun w=>fb ?_⟩
        have w1:IntKind.i64.wrap len=len:=IntWalk.i64_in _ (by omega)
        have w2:IntKind.i64.wrap cap=cap:=IntWalk.i64_in _ (by omega)
        obtain ⟨inf,Il,gZ⟩:=pT (tP _ hb) w
        have t1:¬(cap<0∨(2^48:Int)<bytes*cap):=by omega
        simp only[Instr.makeSlice,Sem.run_bind,run_underlying hu,Result.andThen_ok,Rb,kK,asInt,asIntOf,Sem.run_pure,Il,gZ,w1,w2]
        have QG:(0:Int)≤inf.bytes*cap:=Int.mul_nonneg (by omega) (by omega)
        have tl:(decide (cap<0)||decide ((inf.bytes:Int)*cap>2^48))=false:=by
         rw[gZ];simp only[Bool.or_eq_false_iff,decide_eq_false_iff_not];omega
        have tl2:decide (len<0)=false:=by simp only[decide_eq_false_iff_not];omega
        have tl3:decide (len>cap)=false:=by simp only[decide_eq_false_iff_not];omega
        rw[←gZ]
        simp only[tl,tl2,tl3,Bool.or_self,Bool.false_eq_true,if_false,run_askRoom,eB hn,Sem.run_bind,Result.andThen_ok]
        by_cases h0:cap.toNat*n=0
        · have r0:Array.range 0= #[]:=rfl
          simp [h0,newRow,r0]
        · simp only[h0,if_false,Sem.run_bind,js,Result.andThen_ok,Sem.run_pure]
          simp [newRow,hzl]
      · simp at e
    · simp at e
  · simp at e
 ·
  rename_i t r
  split at e
  · simp at e;obtain ⟨rfl,rfl⟩:=e
    exact ⟨.map #[] 0,fun b=> .map (some b),⟨fun φ' i b _ hi=>by have:=VR.map (φ:=φ') hi;simpa using this,fun φ' b hle=>⟨rfl, #[],rfl,rfl,fun i x y p _=>by simp at p⟩⟩,fun w=>fb (by simp [Instr.makeMap])⟩
  · rename_i o
    split at e
    · rename_i hu hv
      simp at e;obtain ⟨rfl,rfl⟩:=e
      have h1:=ev hv
      generalize Rb:a.eval o=lv at h1
      cases h1
      exact ⟨.map #[] 0,fun b=> .map (some b),⟨fun φ' i b _ hi=>by have:=VR.map (φ:=φ') hi;simpa using this,fun φ' b hle=>⟨rfl, #[],rfl,rfl,fun i x y p _=>by simp at p⟩⟩,fun w=>fb (by simp [Instr.makeMap,run_underlying hu,Rb,asInt,asIntOf])⟩
    · simp at e
 ·
  rename_i t x
  split at e
  · rename_i s hu hx
    simp at e;obtain ⟨rfl,rfl⟩:=e
    have h1:=ev hx
    generalize Rb:a.eval x=lv at h1
    generalize K3:AV.str s=s0 at h1
    cases h1<;>cases K3
    rename_i s'
    exact ⟨.stringIter s' 0,fun b=> .pointer (some ⟨b,0,none⟩),⟨fun φ' i b _ hi=>by have:=VR.ptr (φ:=φ') 0 hi;simpa using this,fun φ' b hle=>⟨rfl,s',rfl,rfl⟩⟩,fun w=>fb (by simp [Instr.range,run_underlying hu,Rb])⟩
  · rename_i hu hx
    simp at e;obtain ⟨rfl,rfl⟩:=e
    have h1:=ev hx
    generalize Rb:a.eval x=lv at h1
    cases h1
    exact ⟨.mapIter none 0 #[] 0,fun b=> .pointer (some ⟨b,0,none⟩),⟨fun φ' i b _ hi=>by have:=VR.ptr (φ:=φ') 0 hi;simpa using this,fun φ' b hle=>⟨rfl,rfl⟩⟩,fun w=>fb (by simp [Instr.range,run_underlying hu,Rb])⟩
  · simp at e
 · simp at e
end Go.Ab
end
