import Derived.Test.YtjbgioidmaofiaaGreatDoorA8
import Derived.Test.YtjbgioidmaofiaaGreatDoorW0
import Derived.Test.YtjbgioidmaofiaaGreatDoorEnv
import Derived.Test.YtjbgioidmaofiaaGreatDoorW1
namespace Go.Proofs.aA
open Go.Proofs Ab
noncomputable section
set_option maxRecDepth 100000
set_option maxHeartbeats 4000000
set_option linter.unusedVariables false
set_option linter.unusedSimpArgs false
def fP:Code:=(Tryz.f108.body).getD .skip
theorem oL:Tryz.f108.body=some fP:=by kernel_rfl
def oM:Code:=(bY fP).getD 0 .skip
def HE:List UInt8:=[48,48,48,49,48,50,48,51,48,52,48,53,48,54,48,55,48,56,48,57,49,48,49,49,49,50,49,51,49,52,49,53,49,54,49,55,49,56,49,57,50,48,50,49,50,50,50,51,50,52,50,53,50,54,50,55,50,56,50,57,51,48,51,49,51,50,51,51,51,52,51,53,51,54,51,55,51,56,51,57,52,48,52,49,52,50,52,51,52,52,52,53,52,54,52,55,52,56,52,57,53,48,53,49,53,50,53,51,53,52,53,53,53,54,53,55,53,56,53,57,54,48,54,49,54,50,54,51,54,52,54,53,54,54,54,55,54,56,54,57,55,48,55,49,55,50,55,51,55,52,55,53,55,54,55,55,55,56,55,57,56,48,56,49,56,50,56,51,56,52,56,53,56,54,56,55,56,56,56,57,57,48,57,49,57,50,57,51,57,52,57,53,57,54,57,55,57,56,57,57]
theorem wrap_u32 {n:Nat} (h:n<4294967296):IntKind.u32.wrap (n:Int)=(n:Int):=by
 show (if (false&&decide ((n:Int)%2^32≥2^31))=true then (n:Int)%2^32 - 2^32 else (n:Int)%2^32)=_
 rw[if_neg (by simp)]
 omega
theorem wrap_u8 {n:Nat} (h:n<256):IntKind.u8.wrap (n:Int)=(n:Int):=by
 show (if (false&&decide ((n:Int)%2^8≥2^7))=true then (n:Int)%2^8 - 2^8 else (n:Int)%2^8)=_
 rw[if_neg (by simp)]
 omega
theorem cd {E:Env} {t:TypeId} {c d:Bool} {k:IntKind} {a b:Nat} (h:k.wrap ((a+b:Nat):Int)=((a+b:Nat):Int)):aN E .add t c d (some (.int k (a:Int))) (some (.int k (b:Int)))=some (.int k ((a+b:Nat):Int)):=qE (by rw[←h];congr 1)
theorem cU {E:Env} {t:TypeId} {c d:Bool} {k:IntKind} {a b:Nat} (h:k.wrap ((a*b:Nat):Int)=((a*b:Nat):Int)):aN E .mul t c d (some (.int k (a:Int))) (some (.int k (b:Int)))=some (.int k ((a*b:Nat):Int)):=v_ (by rw[←h];congr 1)
theorem cZ {E:Env} {t:TypeId} {c d:Bool} {k:IntKind} {a b:Nat} (hb:b≠0) (h:k.wrap ((a/b:Nat):Int)=((a/b:Nat):Int)):aN E .quo t c d (some (.int k (a:Int))) (some (.int k (b:Int)))=some (.int k ((a/b:Nat):Int)):=wa o! (by rw[←Int.ofNat_tdiv];exact h)
theorem da {E:Env} {t:TypeId} {c d:Bool} {k:IntKind} {a b:Nat} (hb:b≠0):aN E .rem t c d (some (.int k (a:Int))) (some (.int k (b:Int)))=some (.int k ((a%b:Nat):Int)):=wb o! (by rw[←Int.ofNat_tmod])
theorem DD:((List.range 100).all fun A=>decide (HE[A*2]? =some (UInt8.ofNat (48+A/10)))&&decide (HE[A*2+1]? =some (UInt8.ofNat (48+A%10))))=true:=by decide+kernel
theorem hB {A:Nat} (hA:A<100):im env (some .string) (some (.str HE)) (some (.int .u32 ((A*2:Nat):Int)))=some (.int .u8 ((48+A/10:Nat):Int)):=by
 have h:=List.all_eq_true.1 DD A (List.mem_range.2 hA)
 simp only[Bool.and_eq_true,decide_eq_true_eq] at h
 simp only[im]
 rw[if_pos o!,Int.toNat_natCast,h.1]
 simp only[Option.map_some,UInt8.toNat_ofNat']
 rw[Nat.mod_eq_of_lt o!]
theorem hH {A:Nat} (hA:A<100):im env (some .string) (some (.str HE)) (some (.int .u32 ((A*2+1:Nat):Int)))=some (.int .u8 ((48+A%10:Nat):Int)):=by
 have h:=List.all_eq_true.1 DD A (List.mem_range.2 hA)
 simp only[Bool.and_eq_true,decide_eq_true_eq] at h
 simp only[im]
 rw[if_pos o!,Int.toNat_natCast,h.2]
 simp only[Option.map_some,UInt8.toNat_ofNat']
 rw[Nat.mod_eq_of_lt o!]
def dW:Nat→Nat→List Nat
 | _,0=> []
 | u,n+1=>dW (u/10) n++[48+u%10]
theorem lT:∀(n u:Nat),(dW u n).length=n
 | 0,_=>rfl
 | n+1,u=>by simp [dW,lT n]
def d8 (u:Nat):List Nat:=[48+u%100000000/10000/100/10,48+u%100000000/10000/100%10,48+u%100000000/10000%100/10,48+u%100000000/10000%100%10,48+u%100000000%10000/100/10,48+u%100000000%10000/100%10,48+u%100000000%10000%100/10,48+u%100000000%10000%100%10]
theorem dW8 (u m:Nat):dW u (m+8)=dW (u/100000000) m++d8 u:=by
 have e:u/10/10/10/10/10/10/10/10=u/100000000:=by omega
 simp only[dW,d8,List.append_assoc,List.cons_append,List.nil_append]
 rw[e]
 congr 1
 simp only[List.cons.injEq,and_true]
 (repeat' apply And.intro)<;>omega
theorem mi {l W:List Nat} {k m i j a b:Nat} (hm:m=k+2) (hi:i=k+1) (hj:k=j) (hl:m≤l.length):((l.take m++W).set i a).set j b=l.take k++b::a::W:=by
 subst hm hi hj
 rw[zA o!,zA o!]
 have h1:(l.take k).length=k:=by simp;omega
 apply List.ext_getElem?
 intro q
 simp only[List.append_assoc,List.cons_append,List.nil_append]
 rw[List.set_append_right _ _ o!,List.set_append_right _ _ o!,h1,Nat.sub_self,show k+1 - k=1 by omega]
 rfl
theorem P7 {l W:List Nat} {m a:Nat} (hm:m=1) (hl:m≤l.length):(l.take m++W).set 0 a=a::W:=by
 subst hm
 cases l with
 | nil=>simp at hl
 | cons x l=>rfl
theorem aam {l W:List Nat} {k a b c d e f g x:Nat} (hk:8≤k) (hl:k≤l.length):((((((((l.take k++W).set (k - 1) a).set (k - 2) b).set (k - 3) c).set (k - 4) d).set (k - 5) e).set (k - 6) f).set (k - 7) g).set (k - 8) x=l.take (k - 8)++(x::g::f::e::d::c::b::a::W):=by
 rw[mi (k:=k - 2) o! o! rfl hl,mi (k:=k - 4) o! o! rfl o!,mi (k:=k - 6) o! o! rfl o!,mi (k:=k - 8) o! o! rfl o!]
theorem IX {d:Nat} {hs:ag} {ds:List kb} {rc:RC} {l:List Nat} {p o n c:Nat} {op:Bool} {C:List AV} {f:TypeId} {U:Nat} (hn:l.length=n) (yg:n<2^60) (hf:o+n≤C.length) (m:Nat):
 ∀(k u:Nat) (h:ag) (W:List Nat),k<8*m+8→W.length+k=n→dW U n=dW u k++W→u<10^k→u<18446744073709551616→Tidy h→Kept p hs h→h.nx=hs.nx→h.get p=some (.cells (setFrom C o (aJ .u8 (l.take k++W))) f false)→∀x:Nat→AV,
  ∃(a:Nat×Nat) (h':ag),(∃y:Nat→AV,Ev env (cC d) (.loop oM) ⟨((AV.slice p o n c op)::(AV.int .u64 ((u:Nat):Int))::(x 2)::(x 3)::(AV.int .i64 ((k:Nat):Int))::rx x 5 162 []),h,ds,rc⟩ (.exit 0) ⟨((AV.slice p o n c op)::(AV.int .u64 ((a.2:Nat):Int))::(y 2)::(y 3)::(AV.int .i64 ((a.1:Nat):Int))::rx y 5 162 []),h',ds,rc⟩)∧a.1<8∧∃W,W.length+a.1=n∧dW U n=dW a.2 a.1++W∧a.2<10^a.1∧Tidy h'∧Kept p hs h'∧h'.nx=hs.nx∧h'.get p=some (.cells (setFrom C o (aJ .u8 (l.take a.1++W))) f false):=by
 induction m with
 | zero=>
   intro k u h W hk hW hd hu FX bK kp hx hg x
   have q1:(decide (8≤((k:Nat):Int)))=false:=(dF o!)
   have ev:=pk_ (d) oM ((AV.slice p o n c op)::(AV.int .u64 ((u:Nat):Int))::(x 2)::(x 3)::(AV.int .i64 ((k:Nat):Int))::rx x 5 162 []) h ds rc (.exit 0) h (CC<|VV (cR 3 false true .i64 ((k:Nat):Int) 8)<|BB q1<|ZZ) (by kernel_rfl)
   exact ⟨(k,u),h,mq (Ev.out ev) (by kernel_rfl),by omega,W,hW,hd,hu,bK,kp,hx,hg⟩
 | succ m ih=>
   intro k u h W hk hW hd hu FX bK kp hx hg x
   by_cases q:k<8
   · have q1:(decide (8≤((k:Nat):Int)))=false:=(dF o!)
     have ev:=pk_ (d) oM ((AV.slice p o n c op)::(AV.int .u64 ((u:Nat):Int))::(x 2)::(x 3)::(AV.int .i64 ((k:Nat):Int))::rx x 5 162 []) h ds rc (.exit 0) h (CC<|VV (cR 3 false true .i64 ((k:Nat):Int) 8)<|BB q1<|ZZ) (by kernel_rfl)
     exact ⟨(k,u),h,mq (Ev.out ev) (by kernel_rfl),by omega,W,hW,hd,hu,bK,kp,hx,hg⟩
   · obtain ⟨D,hD⟩:∃D,D=l.take k++W:=⟨_,rfl⟩
     rw[←hD] at hg
     have Bk:D.length=n:=by rw[hD];simp;omega
     have ex:IntKind.u32.wrap ((u%100000000:Nat):Int)=((u%100000000:Nat):Int):=wrap_u32 o!
     have q1:(decide (8≤((k:Nat):Int)))=true:=(dT o!)
     have u2:aN env .rem 73 false true (some (AV.int .u64 ((u:Nat):Int))) (some (AV.int .u64 100000000))=some (AV.int .u64 ((u%100000000:Nat):Int)):=DB (a:=u) (b:=100000000) o!
     have u3:aN env .quo 73 false true (some (AV.int .u64 ((u:Nat):Int))) (some (AV.int .u64 100000000))=some (AV.int .u64 ((u/100000000:Nat):Int)):=DA (a:=u) (b:=100000000) o! o!
     have u4:aN env .quo 231 false true (some (AV.int .u32 (IntKind.u32.wrap ((u%100000000:Nat):Int)))) (some (AV.int .u32 10000))=some (AV.int .u32 (((u%100000000) /10000:Nat):Int)):=by rw[ex];exact cZ (k:= .u32) (a:=(u%100000000)) (b:=10000) o! (wrap_u32 o!)
     have u5:aN env .rem 231 false true (some (AV.int .u32 (IntKind.u32.wrap ((u%100000000:Nat):Int)))) (some (AV.int .u32 10000))=some (AV.int .u32 (((u%100000000)%10000:Nat):Int)):=by rw[ex];exact da (k:= .u32) (a:=(u%100000000)) (b:=10000) o!
     have u6:aN env .quo 231 false true (some (AV.int .u32 (((u%100000000)%10000:Nat):Int))) (some (AV.int .u32 100))=some (AV.int .u32 ((((u%100000000)%10000) /100:Nat):Int)):=cZ (k:= .u32) (a:=((u%100000000)%10000)) (b:=100) o! (wrap_u32 o!)
     have u7:aN env .mul 231 false true (some (AV.int .u32 ((((u%100000000)%10000) /100:Nat):Int))) (some (AV.int .u32 2))=some (AV.int .u32 (((((u%100000000)%10000) /100)*2:Nat):Int)):=cU (k:= .u32) (a:=(((u%100000000)%10000) /100)) (b:=2) (wrap_u32 o!)
     have u8:aN env .rem 231 false true (some (AV.int .u32 (((u%100000000)%10000:Nat):Int))) (some (AV.int .u32 100))=some (AV.int .u32 ((((u%100000000)%10000)%100:Nat):Int)):=da (k:= .u32) (a:=((u%100000000)%10000)) (b:=100) o!
     have u9:aN env .mul 231 false true (some (AV.int .u32 ((((u%100000000)%10000)%100:Nat):Int))) (some (AV.int .u32 2))=some (AV.int .u32 (((((u%100000000)%10000)%100)*2:Nat):Int)):=cU (k:= .u32) (a:=(((u%100000000)%10000)%100)) (b:=2) (wrap_u32 o!)
     have P9:aN env .quo 231 false true (some (AV.int .u32 (((u%100000000) /10000:Nat):Int))) (some (AV.int .u32 100))=some (AV.int .u32 ((((u%100000000) /10000) /100:Nat):Int)):=cZ (k:= .u32) (a:=((u%100000000) /10000)) (b:=100) o! (wrap_u32 o!)
     have JF:aN env .mul 231 false true (some (AV.int .u32 ((((u%100000000) /10000) /100:Nat):Int))) (some (AV.int .u32 2))=some (AV.int .u32 (((((u%100000000) /10000) /100)*2:Nat):Int)):=cU (k:= .u32) (a:=(((u%100000000) /10000) /100)) (b:=2) (wrap_u32 o!)
     have P_:aN env .rem 231 false true (some (AV.int .u32 (((u%100000000) /10000:Nat):Int))) (some (AV.int .u32 100))=some (AV.int .u32 ((((u%100000000) /10000)%100:Nat):Int)):=da (k:= .u32) (a:=((u%100000000) /10000)) (b:=100) o!
     have Wl:aN env .mul 231 false true (some (AV.int .u32 ((((u%100000000) /10000)%100:Nat):Int))) (some (AV.int .u32 2))=some (AV.int .u32 (((((u%100000000) /10000)%100)*2:Nat):Int)):=cU (k:= .u32) (a:=(((u%100000000) /10000)%100)) (b:=2) (wrap_u32 o!)
     have w14:IntKind.i64.wrap (((k:Nat):Int) - 1)=((k:Nat):Int) - 1:=(wrap_i64 o! o!)
     have w15:IntKind.i64.wrap (((k:Nat):Int) - 2)=((k:Nat):Int) - 2:=(wrap_i64 o! o!)
     have u16:aN env .add 231 false true (some (AV.int .u32 (((((u%100000000)%10000)%100)*2:Nat):Int))) (some (AV.int .u32 1))=some (AV.int .u32 ((((((u%100000000)%10000)%100)*2)+1:Nat):Int)):=cd (k:= .u32) (a:=((((u%100000000)%10000)%100)*2)) (b:=1) (wrap_u32 o!)
     have aan:=hH (A:=(((u%100000000)%10000)%100)) o!
     have aao:=hB (A:=(((u%100000000)%10000)%100)) o!
     have Th:bP env (some (.slice 5)) (some (AV.slice p o n c op)) (some (AV.int .i64 (((k:Nat):Int) - 1)))=some (AV.ptr p (o+(k - 1))):=bJ (by kernel_rfl) (show (k - 1)<n by omega) o!
     obtain ⟨HF,wx⟩:∃hh:ag,hh=h.put p (some (aw.cells (setFrom C o (aJ .u8 (D.set (k - 1) (48+(((u%100000000)%10000)%100)%10)))) f false)):=⟨_,rfl⟩
     have L9:a_ env h 5 (AV.ptr p (o+(k - 1))) (AV.int .u8 ((48+(((u%100000000)%10000)%100)%10:Nat):Int))=some HF:=by rw[wx];exact aZ (by kernel_rfl) o! hg (show (k - 1)<D.length by omega)
     have wy:jS h HF p (aw.cells (setFrom C o (aJ .u8 (D.set (k - 1) (48+(((u%100000000)%10000)%100)%10)))) f false):=by rw[wx];exact bC bK hg
     have L_:=wy.1
     have Wm:HF.nx=h.nx:=by rw[wx];rfl
     obtain ⟨Rt,wz⟩:∃q_,q_=D.set (k - 1) (48+(((u%100000000)%10000)%100)%10):=⟨_,rfl⟩
     have wB:=wy.2.1
     rw[←wz] at wB
     have Ru:Rt.length=n:=by rw[wz,List.length_set];exact Bk
     have Ma:Kept p h HF:=wy.2.2
     have aap:bP env (some (.slice 5)) (some (AV.slice p o n c op)) (some (AV.int .i64 (((k:Nat):Int) - 2)))=some (AV.ptr p (o+(k - 2))):=bJ (by kernel_rfl) (show (k - 2)<n by omega) o!
     obtain ⟨yj,Mb⟩:∃hh:ag,hh=HF.put p (some (aw.cells (setFrom C o (aJ .u8 (Rt.set (k - 2) (48+(((u%100000000)%10000)%100) /10)))) f false)):=⟨_,rfl⟩
     have Wn:a_ env HF 5 (AV.ptr p (o+(k - 2))) (AV.int .u8 ((48+(((u%100000000)%10000)%100) /10:Nat):Int))=some yj:=by rw[Mb];exact aZ (by kernel_rfl) o! wB (show (k - 2)<Rt.length by omega)
     have Mc:jS HF yj p (aw.cells (setFrom C o (aJ .u8 (Rt.set (k - 2) (48+(((u%100000000)%10000)%100) /10)))) f false):=by rw[Mb];exact bC L_ wB
     have DE:=Mc.1
     have abB:yj.nx=HF.nx:=by rw[Mb];rfl
     obtain ⟨Wo,Md⟩:∃q_,q_=Rt.set (k - 2) (48+(((u%100000000)%10000)%100) /10):=⟨_,rfl⟩
     have Me:=Mc.2.1
     rw[←Md] at Me
     have Wq:Wo.length=n:=by rw[Md,List.length_set];exact Ru
     have DF:Kept p h yj:=Ma.trans Mc.2.2
     have w25:IntKind.i64.wrap (((k:Nat):Int) - 3)=((k:Nat):Int) - 3:=(wrap_i64 o! o!)
     have w26:IntKind.i64.wrap (((k:Nat):Int) - 4)=((k:Nat):Int) - 4:=(wrap_i64 o! o!)
     have u27:aN env .add 231 false true (some (AV.int .u32 (((((u%100000000)%10000) /100)*2:Nat):Int))) (some (AV.int .u32 1))=some (AV.int .u32 ((((((u%100000000)%10000) /100)*2)+1:Nat):Int)):=cd (k:= .u32) (a:=((((u%100000000)%10000) /100)*2)) (b:=1) (wrap_u32 o!)
     have aaq:=hH (A:=(((u%100000000)%10000) /100)) o!
     have aar:=hB (A:=(((u%100000000)%10000) /100)) o!
     have aas:bP env (some (.slice 5)) (some (AV.slice p o n c op)) (some (AV.int .i64 (((k:Nat):Int) - 3)))=some (AV.ptr p (o+(k - 3))):=bJ (by kernel_rfl) (show (k - 3)<n by omega) o!
     obtain ⟨Rv,Mf⟩:∃hh:ag,hh=yj.put p (some (aw.cells (setFrom C o (aJ .u8 (Wo.set (k - 3) (48+(((u%100000000)%10000) /100)%10)))) f false)):=⟨_,rfl⟩
     have Wr:a_ env yj 5 (AV.ptr p (o+(k - 3))) (AV.int .u8 ((48+(((u%100000000)%10000) /100)%10:Nat):Int))=some Rv:=by rw[Mf];exact aZ (by kernel_rfl) o! Me (show (k - 3)<Wo.length by omega)
     have Mg:jS yj Rv p (aw.cells (setFrom C o (aJ .u8 (Wo.set (k - 3) (48+(((u%100000000)%10000) /100)%10)))) f false):=by rw[Mf];exact bC DE Me
     have Ws:=Mg.1
     have abC:Rv.nx=yj.nx:=by rw[Mf];rfl
     obtain ⟨Wt,Mh⟩:∃q_,q_=Wo.set (k - 3) (48+(((u%100000000)%10000) /100)%10):=⟨_,rfl⟩
     have Mi:=Mg.2.1
     rw[←Mh] at Mi
     have Wu:Wt.length=n:=by rw[Mh,List.length_set];exact Wq
     have Wv:Kept p h Rv:=DF.trans Mg.2.2
     have Ti:bP env (some (.slice 5)) (some (AV.slice p o n c op)) (some (AV.int .i64 (((k:Nat):Int) - 4)))=some (AV.ptr p (o+(k - 4))):=bJ (by kernel_rfl) (show (k - 4)<n by omega) o!
     obtain ⟨HG,wC⟩:∃hh:ag,hh=Rv.put p (some (aw.cells (setFrom C o (aJ .u8 (Wt.set (k - 4) (48+(((u%100000000)%10000) /100) /10)))) f false)):=⟨_,rfl⟩
     have Mj:a_ env Rv 5 (AV.ptr p (o+(k - 4))) (AV.int .u8 ((48+(((u%100000000)%10000) /100) /10:Nat):Int))=some HG:=by rw[wC];exact aZ (by kernel_rfl) o! Mi (show (k - 4)<Wt.length by omega)
     have wD:jS Rv HG p (aw.cells (setFrom C o (aJ .u8 (Wt.set (k - 4) (48+(((u%100000000)%10000) /100) /10)))) f false):=by rw[wC];exact bC Ws Mi
     have Mk:=wD.1
     have Ww:HG.nx=Rv.nx:=by rw[wC];rfl
     obtain ⟨Rw,wE⟩:∃q_,q_=Wt.set (k - 4) (48+(((u%100000000)%10000) /100) /10):=⟨_,rfl⟩
     have wF:=wD.2.1
     rw[←wE] at wF
     have Rx:Rw.length=n:=by rw[wE,List.length_set];exact Wu
     have Ml:Kept p h HG:=Wv.trans wD.2.2
     have w36:IntKind.i64.wrap (((k:Nat):Int) - 5)=((k:Nat):Int) - 5:=(wrap_i64 o! o!)
     have w37:IntKind.i64.wrap (((k:Nat):Int) - 6)=((k:Nat):Int) - 6:=(wrap_i64 o! o!)
     have u38:aN env .add 231 false true (some (AV.int .u32 (((((u%100000000) /10000)%100)*2:Nat):Int))) (some (AV.int .u32 1))=some (AV.int .u32 ((((((u%100000000) /10000)%100)*2)+1:Nat):Int)):=cd (k:= .u32) (a:=((((u%100000000) /10000)%100)*2)) (b:=1) (wrap_u32 o!)
     have aat:=hH (A:=(((u%100000000) /10000)%100)) o!
     have aau:=hB (A:=(((u%100000000) /10000)%100)) o!
     have aav:bP env (some (.slice 5)) (some (AV.slice p o n c op)) (some (AV.int .i64 (((k:Nat):Int) - 5)))=some (AV.ptr p (o+(k - 5))):=bJ (by kernel_rfl) (show (k - 5)<n by omega) o!
     obtain ⟨Ry,Mm⟩:∃hh:ag,hh=HG.put p (some (aw.cells (setFrom C o (aJ .u8 (Rw.set (k - 5) (48+(((u%100000000) /10000)%100)%10)))) f false)):=⟨_,rfl⟩
     have Wx:a_ env HG 5 (AV.ptr p (o+(k - 5))) (AV.int .u8 ((48+(((u%100000000) /10000)%100)%10:Nat):Int))=some Ry:=by rw[Mm];exact aZ (by kernel_rfl) o! wF (show (k - 5)<Rw.length by omega)
     have Mn:jS HG Ry p (aw.cells (setFrom C o (aJ .u8 (Rw.set (k - 5) (48+(((u%100000000) /10000)%100)%10)))) f false):=by rw[Mm];exact bC Mk wF
     have Wy:=Mn.1
     have abD:Ry.nx=HG.nx:=by rw[Mm];rfl
     obtain ⟨Wz,Mo⟩:∃q_,q_=Rw.set (k - 5) (48+(((u%100000000) /10000)%100)%10):=⟨_,rfl⟩
     have Mp:=Mn.2.1
     rw[←Mo] at Mp
     have WA:Wz.length=n:=by rw[Mo,List.length_set];exact Rx
     have WB:Kept p h Ry:=Ml.trans Mn.2.2
     have aaw:bP env (some (.slice 5)) (some (AV.slice p o n c op)) (some (AV.int .i64 (((k:Nat):Int) - 6)))=some (AV.ptr p (o+(k - 6))):=bJ (by kernel_rfl) (show (k - 6)<n by omega) o!
     obtain ⟨Rz,Mq⟩:∃hh:ag,hh=Ry.put p (some (aw.cells (setFrom C o (aJ .u8 (Wz.set (k - 6) (48+(((u%100000000) /10000)%100) /10)))) f false)):=⟨_,rfl⟩
     have WC:a_ env Ry 5 (AV.ptr p (o+(k - 6))) (AV.int .u8 ((48+(((u%100000000) /10000)%100) /10:Nat):Int))=some Rz:=by rw[Mq];exact aZ (by kernel_rfl) o! Mp (show (k - 6)<Wz.length by omega)
     have Mr:jS Ry Rz p (aw.cells (setFrom C o (aJ .u8 (Wz.set (k - 6) (48+(((u%100000000) /10000)%100) /10)))) f false):=by rw[Mq];exact bC Wy Mp
     have WD:=Mr.1
     have abE:Rz.nx=Ry.nx:=by rw[Mq];rfl
     obtain ⟨WE,Ms⟩:∃q_,q_=Wz.set (k - 6) (48+(((u%100000000) /10000)%100) /10):=⟨_,rfl⟩
     have Mt:=Mr.2.1
     rw[←Ms] at Mt
     have WG:WE.length=n:=by rw[Ms,List.length_set];exact WA
     have WH:Kept p h Rz:=WB.trans Mr.2.2
     have w47:IntKind.i64.wrap (((k:Nat):Int) - 7)=((k:Nat):Int) - 7:=(wrap_i64 o! o!)
     have w48:IntKind.i64.wrap (((k:Nat):Int) - 8)=((k:Nat):Int) - 8:=(wrap_i64 o! o!)
     have u49:aN env .add 231 false true (some (AV.int .u32 (((((u%100000000) /10000) /100)*2:Nat):Int))) (some (AV.int .u32 1))=some (AV.int .u32 ((((((u%100000000) /10000) /100)*2)+1:Nat):Int)):=cd (k:= .u32) (a:=((((u%100000000) /10000) /100)*2)) (b:=1) (wrap_u32 o!)
     have aax:=hH (A:=(((u%100000000) /10000) /100)) o!
     have aay:=hB (A:=(((u%100000000) /10000) /100)) o!
     have aaz:bP env (some (.slice 5)) (some (AV.slice p o n c op)) (some (AV.int .i64 (((k:Nat):Int) - 7)))=some (AV.ptr p (o+(k - 7))):=bJ (by kernel_rfl) (show (k - 7)<n by omega) o!
     obtain ⟨RA,Mu⟩:∃hh:ag,hh=Rz.put p (some (aw.cells (setFrom C o (aJ .u8 (WE.set (k - 7) (48+(((u%100000000) /10000) /100)%10)))) f false)):=⟨_,rfl⟩
     have WI:a_ env Rz 5 (AV.ptr p (o+(k - 7))) (AV.int .u8 ((48+(((u%100000000) /10000) /100)%10:Nat):Int))=some RA:=by rw[Mu];exact aZ (by kernel_rfl) o! Mt (show (k - 7)<WE.length by omega)
     have Mv:jS Rz RA p (aw.cells (setFrom C o (aJ .u8 (WE.set (k - 7) (48+(((u%100000000) /10000) /100)%10)))) f false):=by rw[Mu];exact bC WD Mt
     have WJ:=Mv.1
     have abF:RA.nx=Rz.nx:=by rw[Mu];rfl
     obtain ⟨WK,Mw⟩:∃q_,q_=WE.set (k - 7) (48+(((u%100000000) /10000) /100)%10):=⟨_,rfl⟩
     have Mx:=Mv.2.1
     rw[←Mw] at Mx
     have WL:WK.length=n:=by rw[Mw,List.length_set];exact WG
     have WM:Kept p h RA:=WH.trans Mv.2.2
     have aaA:bP env (some (.slice 5)) (some (AV.slice p o n c op)) (some (AV.int .i64 (((k:Nat):Int) - 8)))=some (AV.ptr p (o+(k - 8))):=bJ (by kernel_rfl) (show (k - 8)<n by omega) o!
     obtain ⟨UU,My⟩:∃hh:ag,hh=RA.put p (some (aw.cells (setFrom C o (aJ .u8 (WK.set (k - 8) (48+(((u%100000000) /10000) /100) /10)))) f false)):=⟨_,rfl⟩
     have WN:a_ env RA 5 (AV.ptr p (o+(k - 8))) (AV.int .u8 ((48+(((u%100000000) /10000) /100) /10:Nat):Int))=some UU:=by rw[My];exact aZ (by kernel_rfl) o! Mx (show (k - 8)<WK.length by omega)
     have Mz:jS RA UU p (aw.cells (setFrom C o (aJ .u8 (WK.set (k - 8) (48+(((u%100000000) /10000) /100) /10)))) f false):=by rw[My];exact bC WJ Mx
     have WO:=Mz.1
     have abG:UU.nx=RA.nx:=by rw[My];rfl
     obtain ⟨D57,MA⟩:∃q_,q_=WK.set (k - 8) (48+(((u%100000000) /10000) /100) /10):=⟨_,rfl⟩
     have RB:=Mz.2.1
     rw[←MA] at RB
     have abH:D57.length=n:=by rw[MA,List.length_set];exact WL
     have WQ:Kept p h UU:=WM.trans Mz.2.2
     have ev:=pk_ (d) oM ((AV.slice p o n c op)::(AV.int .u64 ((u:Nat):Int))::(x 2)::(x 3)::(AV.int .i64 ((k:Nat):Int))::rx x 5 162 []) h ds rc .normal UU (CC<|VV (cR 3 false true .i64 ((k:Nat):Int) 8)<|BB q1<|CC<|VV u2<|CN 3<|VV u3<|CN 2<|VV u4<|CC<|VV u5<|CN 3<|VV u6<|VV u7<|CC<|VV u8<|VV u9<|CN 3<|VV P9<|VV JF<|CC<|VV P_<|VV Wl<|CN 4<|VV (ea 3 false true w14)<|CN 2<|VV (ea 3 false true w15)<|CC<|VV u16<|VV aan<|CC<|VV aao<|VV Th<|SS L9<|VV aap<|SS Wn<|CN 2<|VV (ea 3 false true w25)<|CN 2<|VV (ea 3 false true w26)<|CC<|VV u27<|VV aaq<|CC<|VV aar<|VV aas<|SS Wr<|VV Ti<|SS Mj<|CN 2<|VV (ea 3 false true w36)<|CN 2<|VV (ea 3 false true w37)<|CC<|VV u38<|VV aat<|CC<|VV aau<|VV aav<|SS Wx<|VV aaw<|SS WC<|CN 2<|VV (ea 3 false true w47)<|CN 2<|VV (ea 3 false true w48)<|CC<|VV u49<|VV aax<|CC<|VV aay<|VV aaz<|SS WI<|VV aaA<|SS WN<|CC<|VV (ea 3 false true w48)<|CC<|ZZ) (by kernel_rfl)
     have e8:dW u k=dW (u/100000000) (k - 8)++d8 u:=by
      have:=dW8 u (k - 8)
      rw[show k - 8+8=k by omega] at this
      exact this
     have eL:D57=l.take (k - 8)++(d8 u++W):=by
      rw[MA,Mw,Ms,Mo,wE,Mh,Md,wz,hD,aam o! o!]
      rfl
     have g1:=RB
     rw[eL] at g1
     have hu8:u/100000000<10^(k - 8):=by
      rw[Nat.div_lt_iff_lt_mul o!,show (100000000:Nat)=10^8 by rfl,←Nat.pow_add,show k - 8+8=k by omega]
      exact hu
     refine Bj (tin:=fun x=>((AV.slice p o n c op)::(AV.int .u64 ((u/100000000:Nat):Int))::(x 2)::(x 3)::(AV.int .i64 ((k - 8:Nat):Int))::rx x 5 162 [])) ev (by rw[show ((k:Nat):Int) - 8=((k - 8:Nat):Int) by omega];kernel_rfl) fun x=>ih (k - 8) (u/100000000) UU _ o! ?_ ?_ hu8 o! WO (kp.trans WQ) o! g1 x
     · rw[List.length_append,show (d8 u).length=8 from rfl];omega
     · rw[hd,e8,List.append_assoc]
section
variable {d k v:Nat} {h hl:ag} {l W D:List Nat} {u p o n c:Nat} {op:Bool} {C:List AV} {f:TypeId} {yl:Nat→AV}
structure FB (d:Nat) (h:ag) (l:List Nat) (u p o n c:Nat) (op:Bool) (C:List AV) (f:TypeId) (k v:Nat) (hl:ag) (yl:Nat→AV) (W D:List Nat):Prop where
 hn:l.length=n
 yg:n<2^60
 hf:o+n≤C.length
 zB:h.get p=some (.cells C f false)
 bK:Tidy h
 iI:Ev env (cC d) (.loop oM) ⟨((AV.slice p o n c op)::(AV.int .u64 ((u:Nat):Int))::AV.undef::AV.undef::(AV.int .i64 ((n:Nat):Int))::AV.undef::AV.undef::AV.undef::AV.undef::AV.undef::AV.undef::AV.undef::AV.undef::AV.undef::AV.undef::AV.undef::AV.undef::(AV.slice p o n c op)::(AV.int .i64 ((n:Nat):Int))::ck 148),h,[],.no⟩ (.exit 0) ⟨((AV.slice p o n c op)::(AV.int .u64 ((v:Nat):Int))::(yl 2)::(yl 3)::(AV.int .i64 ((k:Nat):Int))::rx yl 5 162 []),hl,[],.no⟩
 Oe:k<8
 hW:W.length+k=n
 Bl:dW u n=dW v k++W
 hv:v<10^k
 nQ:Tidy hl
 m8:Kept p h hl
 yG:hl.nx=h.nx
 iO:hl.get p=some (.cells (setFrom C o (aJ .u8 D)) f false)
 hD:D=l.take k++W
 Bk:D.length=n
 Of:v<10000000
 wG:IntKind.u32.wrap ((v:Nat):Int)=((v:Nat):Int)
def FG (d:Nat) (h:ag) (u p o n c:Nat) (op:Bool) (C:List AV) (f:TypeId):Prop:=∃hk,cC (d+1) (.fn 108) [.slice p o n c op,.int .u64 (u:Nat)] h= .ret (.tuple []) hk∧jS h hk p (.cells (setFrom C o (aJ .u8 (dW u n))) f false)∧hk.nx=h.nx
theorem P' (x:FB d h l u p o n c op C f k v hl yl W D) (hk:k=7):FG d h u p o n c op C f:=by
 obtain ⟨hn,yg,hf,zB,bK,iI,Oe,hW,Bl,hv,nQ,m8,yG,iO,hD,Bk,Of,wG⟩:=x
 have It:v<10000000:=by have:=hv;rw[hk] at this;exact this
 have rU:Kept p h hl:=m8
 have q1:(decide (4≤((k:Nat):Int)))=true:=(dT o!)
 have u2:aN env .rem 231 false true (some (AV.int .u32 (IntKind.u32.wrap ((v:Nat):Int)))) (some (AV.int .u32 10000))=some (AV.int .u32 ((v%10000:Nat):Int)):=by rw[wG];exact da (k:= .u32) (a:=v) (b:=10000) o!
 have u3:aN env .quo 231 false true (some (AV.int .u32 (IntKind.u32.wrap ((v:Nat):Int)))) (some (AV.int .u32 10000))=some (AV.int .u32 ((v/10000:Nat):Int)):=by rw[wG];exact cZ (k:= .u32) (a:=v) (b:=10000) o! (wrap_u32 o!)
 have u4:aN env .quo 231 false true (some (AV.int .u32 ((v%10000:Nat):Int))) (some (AV.int .u32 100))=some (AV.int .u32 (((v%10000) /100:Nat):Int)):=cZ (k:= .u32) (a:=(v%10000)) (b:=100) o! (wrap_u32 o!)
 have u5:aN env .mul 231 false true (some (AV.int .u32 (((v%10000) /100:Nat):Int))) (some (AV.int .u32 2))=some (AV.int .u32 ((((v%10000) /100)*2:Nat):Int)):=cU (k:= .u32) (a:=((v%10000) /100)) (b:=2) (wrap_u32 o!)
 have u6:aN env .rem 231 false true (some (AV.int .u32 ((v%10000:Nat):Int))) (some (AV.int .u32 100))=some (AV.int .u32 (((v%10000)%100:Nat):Int)):=da (k:= .u32) (a:=(v%10000)) (b:=100) o!
 have u7:aN env .mul 231 false true (some (AV.int .u32 (((v%10000)%100:Nat):Int))) (some (AV.int .u32 2))=some (AV.int .u32 ((((v%10000)%100)*2:Nat):Int)):=cU (k:= .u32) (a:=((v%10000)%100)) (b:=2) (wrap_u32 o!)
 have w8:IntKind.i64.wrap (((k:Nat):Int) - 1)=((k:Nat):Int) - 1:=(wrap_i64 o! o!)
 have w9:IntKind.i64.wrap (((k:Nat):Int) - 2)=((k:Nat):Int) - 2:=(wrap_i64 o! o!)
 have P9:aN env .add 231 false true (some (AV.int .u32 ((((v%10000)%100)*2:Nat):Int))) (some (AV.int .u32 1))=some (AV.int .u32 (((((v%10000)%100)*2)+1:Nat):Int)):=cd (k:= .u32) (a:=(((v%10000)%100)*2)) (b:=1) (wrap_u32 o!)
 have FY:=hH (A:=((v%10000)%100)) o!
 have FZ:=hB (A:=((v%10000)%100)) o!
 have Bm:bP env (some (.slice 5)) (some (AV.slice p o n c op)) (some (AV.int .i64 (((k:Nat):Int) - 1)))=some (AV.ptr p (o+(k - 1))):=bJ (by kernel_rfl) (show (k - 1)<n by omega) o!
 obtain ⟨jz,kE⟩:∃hh:ag,hh=hl.put p (some (aw.cells (setFrom C o (aJ .u8 (D.set (k - 1) (48+((v%10000)%100)%10)))) f false)):=⟨_,rfl⟩
 have wH:a_ env hl 5 (AV.ptr p (o+(k - 1))) (AV.int .u8 ((48+((v%10000)%100)%10:Nat):Int))=some jz:=by rw[kE];exact aZ (by kernel_rfl) o! iO (show (k - 1)<D.length by omega)
 have kF:jS hl jz p (aw.cells (setFrom C o (aJ .u8 (D.set (k - 1) (48+((v%10000)%100)%10)))) f false):=by rw[kE];exact bC nQ iO
 have nH:=kF.1
 have MB:jz.nx=hl.nx:=by rw[kE];rfl
 obtain ⟨wI,kG⟩:∃q_,q_=D.set (k - 1) (48+((v%10000)%100)%10):=⟨_,rfl⟩
 have kH:=kF.2.1
 rw[←kG] at kH
 have wJ:wI.length=n:=by rw[kG,List.length_set];exact Bk
 have kI:Kept p h jz:=rU.trans kF.2.2
 have yH:bP env (some (.slice 5)) (some (AV.slice p o n c op)) (some (AV.int .i64 (((k:Nat):Int) - 2)))=some (AV.ptr p (o+(k - 2))):=bJ (by kernel_rfl) (show (k - 2)<n by omega) o!
 obtain ⟨oN,kJ⟩:∃hh:ag,hh=jz.put p (some (aw.cells (setFrom C o (aJ .u8 (wI.set (k - 2) (48+((v%10000)%100) /10)))) f false)):=⟨_,rfl⟩
 have wK:a_ env jz 5 (AV.ptr p (o+(k - 2))) (AV.int .u8 ((48+((v%10000)%100) /10:Nat):Int))=some oN:=by rw[kJ];exact aZ (by kernel_rfl) o! kH (show (k - 2)<wI.length by omega)
 have kK:jS jz oN p (aw.cells (setFrom C o (aJ .u8 (wI.set (k - 2) (48+((v%10000)%100) /10)))) f false):=by rw[kJ];exact bC nH kH
 have wM:=kK.1
 have MC:oN.nx=jz.nx:=by rw[kJ];rfl
 obtain ⟨wN,kM⟩:∃q_,q_=wI.set (k - 2) (48+((v%10000)%100) /10):=⟨_,rfl⟩
 have kN:=kK.2.1
 rw[←kM] at kN
 have wQ:wN.length=n:=by rw[kM,List.length_set];exact wJ
 have wR:Kept p h oN:=kI.trans kK.2.2
 have Tj:IntKind.i64.wrap (((k:Nat):Int) - 3)=((k:Nat):Int) - 3:=(wrap_i64 o! o!)
 have MD:IntKind.i64.wrap (((k:Nat):Int) - 4)=((k:Nat):Int) - 4:=(wrap_i64 o! o!)
 have Tk:aN env .add 231 false true (some (AV.int .u32 ((((v%10000) /100)*2:Nat):Int))) (some (AV.int .u32 1))=some (AV.int .u32 (((((v%10000) /100)*2)+1:Nat):Int)):=cd (k:= .u32) (a:=(((v%10000) /100)*2)) (b:=1) (wrap_u32 o!)
 have F0:=hH (A:=((v%10000) /100)) o!
 have F1:=hB (A:=((v%10000) /100)) o!
 have F2:bP env (some (.slice 5)) (some (AV.slice p o n c op)) (some (AV.int .i64 (((k:Nat):Int) - 3)))=some (AV.ptr p (o+(k - 3))):=bJ (by kernel_rfl) (show (k - 3)<n by omega) o!
 obtain ⟨oO,kO⟩:∃hh:ag,hh=oN.put p (some (aw.cells (setFrom C o (aJ .u8 (wN.set (k - 3) (48+((v%10000) /100)%10)))) f false)):=⟨_,rfl⟩
 have wV:a_ env oN 5 (AV.ptr p (o+(k - 3))) (AV.int .u8 ((48+((v%10000) /100)%10:Nat):Int))=some oO:=by rw[kO];exact aZ (by kernel_rfl) o! kN (show (k - 3)<wN.length by omega)
 have kQ:jS oN oO p (aw.cells (setFrom C o (aJ .u8 (wN.set (k - 3) (48+((v%10000) /100)%10)))) f false):=by rw[kO];exact bC wM kN
 have wX:=kQ.1
 have ME:oO.nx=oN.nx:=by rw[kO];rfl
 obtain ⟨wY,kR⟩:∃q_,q_=wN.set (k - 3) (48+((v%10000) /100)%10):=⟨_,rfl⟩
 have kS:=kQ.2.1
 rw[←kR] at kS
 have wZ:wY.length=n:=by rw[kR,List.length_set];exact wQ
 have w_:Kept p h oO:=wR.trans kQ.2.2
 have F3:bP env (some (.slice 5)) (some (AV.slice p o n c op)) (some (AV.int .i64 (((k:Nat):Int) - 4)))=some (AV.ptr p (o+(k - 4))):=bJ (by kernel_rfl) (show (k - 4)<n by omega) o!
 obtain ⟨qc,kU⟩:∃hh:ag,hh=oO.put p (some (aw.cells (setFrom C o (aJ .u8 (wY.set (k - 4) (48+((v%10000) /100) /10)))) f false)):=⟨_,rfl⟩
 have xa:a_ env oO 5 (AV.ptr p (o+(k - 4))) (AV.int .u8 ((48+((v%10000) /100) /10:Nat):Int))=some qc:=by rw[kU];exact aZ (by kernel_rfl) o! kS (show (k - 4)<wY.length by omega)
 have kV:jS oO qc p (aw.cells (setFrom C o (aJ .u8 (wY.set (k - 4) (48+((v%10000) /100) /10)))) f false):=by rw[kU];exact bC wX kS
 have xb:=kV.1
 have MF:qc.nx=oO.nx:=by rw[kU];rfl
 obtain ⟨zC,kW⟩:∃q_,q_=wY.set (k - 4) (48+((v%10000) /100) /10):=⟨_,rfl⟩
 have kX:=kV.2.1
 rw[←kW] at kX
 have zD:zC.length=n:=by rw[kW,List.length_set];exact wZ
 have xe:Kept p h qc:=w_.trans kV.2.2
 have Tl:(decide (2≤(((k:Nat):Int) - 4)))=true:=(dT o!)
 have u31:aN env .rem 231 false true (some (AV.int .u32 ((v/10000:Nat):Int))) (some (AV.int .u32 100))=some (AV.int .u32 (((v/10000)%100:Nat):Int)):=da (k:= .u32) (a:=(v/10000)) (b:=100) o!
 have u32:aN env .mul 231 false true (some (AV.int .u32 (((v/10000)%100:Nat):Int))) (some (AV.int .u32 2))=some (AV.int .u32 ((((v/10000)%100)*2:Nat):Int)):=cU (k:= .u32) (a:=((v/10000)%100)) (b:=2) (wrap_u32 o!)
 have u33:aN env .quo 231 false true (some (AV.int .u32 ((v/10000:Nat):Int))) (some (AV.int .u32 100))=some (AV.int .u32 (((v/10000) /100:Nat):Int)):=cZ (k:= .u32) (a:=(v/10000)) (b:=100) o! (wrap_u32 o!)
 have w34:IntKind.i64.wrap ((((k:Nat):Int) - 4) - 1)=(((k:Nat):Int) - 4) - 1:=(wrap_i64 o! o!)
 have WR:IntKind.i64.wrap ((((k:Nat):Int) - 4) - 2)=(((k:Nat):Int) - 4) - 2:=(wrap_i64 o! o!)
 have u36:aN env .add 231 false true (some (AV.int .u32 ((((v/10000)%100)*2:Nat):Int))) (some (AV.int .u32 1))=some (AV.int .u32 (((((v/10000)%100)*2)+1:Nat):Int)):=cd (k:= .u32) (a:=(((v/10000)%100)*2)) (b:=1) (wrap_u32 o!)
 have Tm:=hH (A:=((v/10000)%100)) o!
 have Tn:=hB (A:=((v/10000)%100)) o!
 have To:bP env (some (.slice 5)) (some (AV.slice p o n c op)) (some (AV.int .i64 ((((k:Nat):Int) - 4) - 1)))=some (AV.ptr p (o+(k - 5))):=bJ (by kernel_rfl) (show (k - 5)<n by omega) o!
 obtain ⟨sB,xf⟩:∃hh:ag,hh=qc.put p (some (aw.cells (setFrom C o (aJ .u8 (zC.set (k - 5) (48+((v/10000)%100)%10)))) f false)):=⟨_,rfl⟩
 have MG:a_ env qc 5 (AV.ptr p (o+(k - 5))) (AV.int .u8 ((48+((v/10000)%100)%10:Nat):Int))=some sB:=by rw[xf];exact aZ (by kernel_rfl) o! kX (show (k - 5)<zC.length by omega)
 have xg:jS qc sB p (aw.cells (setFrom C o (aJ .u8 (zC.set (k - 5) (48+((v/10000)%100)%10)))) f false):=by rw[xf];exact bC xb kX
 have xh:=xg.1
 have WS:sB.nx=qc.nx:=by rw[xf];rfl
 obtain ⟨MH,xj⟩:∃q_,q_=zC.set (k - 5) (48+((v/10000)%100)%10):=⟨_,rfl⟩
 have xm:=xg.2.1
 rw[←xj] at xm
 have MI:MH.length=n:=by rw[xj,List.length_set];exact zD
 have qd:Kept p h sB:=xe.trans xg.2.2
 have Tp:bP env (some (.slice 5)) (some (AV.slice p o n c op)) (some (AV.int .i64 ((((k:Nat):Int) - 4) - 2)))=some (AV.ptr p (o+(k - 6))):=bJ (by kernel_rfl) (show (k - 6)<n by omega) o!
 obtain ⟨HI,xn⟩:∃hh:ag,hh=sB.put p (some (aw.cells (setFrom C o (aJ .u8 (MH.set (k - 6) (48+((v/10000)%100) /10)))) f false)):=⟨_,rfl⟩
 have MJ:a_ env sB 5 (AV.ptr p (o+(k - 6))) (AV.int .u8 ((48+((v/10000)%100) /10:Nat):Int))=some HI:=by rw[xn];exact aZ (by kernel_rfl) o! xm (show (k - 6)<MH.length by omega)
 have xp:jS sB HI p (aw.cells (setFrom C o (aJ .u8 (MH.set (k - 6) (48+((v/10000)%100) /10)))) f false):=by rw[xn];exact bC xh xm
 have MK:=xp.1
 have WT:HI.nx=sB.nx:=by rw[xn];rfl
 obtain ⟨RD,xq⟩:∃q_,q_=MH.set (k - 6) (48+((v/10000)%100) /10):=⟨_,rfl⟩
 have xr:=xp.2.1
 rw[←xq] at xr
 have RE:RD.length=n:=by rw[xq,List.length_set];exact MI
 have ML:Kept p h HI:=qd.trans xp.2.2
 have q45:(decide (0<((((k:Nat):Int) - 4) - 2)))=true:=(dT o!)
 have u46:aN env .add 231 true false (some (AV.int .u32 48)) (some (AV.int .u32 (((v/10000) /100:Nat):Int)))=some (AV.int .u32 ((48+((v/10000) /100):Nat):Int)):=cd (k:= .u32) (a:=48) (b:=((v/10000) /100)) (wrap_u32 o!)
 have aaB:bP env (some (.slice 5)) (some (AV.slice p o n c op)) (some (AV.int .i64 0))=some (AV.ptr p (o+0)):=bJ (by kernel_rfl) (show 0<n by omega) o!
 obtain ⟨WU,MN⟩:∃hh:ag,hh=HI.put p (some (aw.cells (setFrom C o (aJ .u8 (RD.set 0 (48+((v/10000) /100))))) f false)):=⟨_,rfl⟩
 have WV:a_ env HI 5 (AV.ptr p (o+0)) (AV.int .u8 (IntKind.u8.wrap ((48+((v/10000) /100):Nat):Int)))=some WU:=by rw[MN,(wrap_u8 (n:=48+((v/10000) /100)) o!)];exact aZ (by kernel_rfl) o! xr (show 0<RD.length by omega)
 have MO:jS HI WU p (aw.cells (setFrom C o (aJ .u8 (RD.set 0 (48+((v/10000) /100))))) f false):=by rw[MN];exact bC MK xr
 have WW:=MO.1
 have abI:WU.nx=HI.nx:=by rw[MN];rfl
 obtain ⟨D49,MP⟩:∃q_,q_=RD.set 0 (48+((v/10000) /100)):=⟨_,rfl⟩
 have MQ:=MO.2.1
 rw[←MP] at MQ
 have abJ:D49.length=n:=by rw[MP,List.length_set];exact RE
 have WX:Kept p h WU:=ML.trans MO.2.2
 have ev:=pk (d) fP ((AV.slice p o n c op)::(AV.int .u64 ((u:Nat):Int))::ck 165) h .normal WU (CN 3<|LL iI<|CN 4<|VV (cR 3 false true .i64 ((k:Nat):Int) 4)<|BB q1<|CC<|VV u2<|CN 2<|VV u3<|CN 2<|VV u4<|VV u5<|CC<|VV u6<|VV u7<|CN 4<|VV (ea 3 false true w8)<|CN 2<|VV (ea 3 false true w9)<|CC<|VV P9<|VV FY<|CC<|VV FZ<|VV Bm<|SS wH<|VV yH<|SS wK<|CN 2<|VV (ea 3 false true Tj)<|CN 2<|VV (ea 3 false true MD)<|CC<|VV Tk<|VV F0<|CC<|VV F1<|VV F2<|SS wV<|VV F3<|SS xa<|CC<|VV (ea 3 false true MD)<|CN 2<|VV (cR 3 false true .i64 (((k:Nat):Int) - 4) 2)<|BB Tl<|CC<|VV u31<|VV u32<|CN 2<|VV u33<|CN 3<|VV (ea 3 false true w34)<|CN 2<|VV (ea 3 false true WR)<|CC<|VV u36<|VV Tm<|CC<|VV Tn<|VV To<|SS MG<|VV Tp<|SS MJ<|CC<|VV (ea 3 false true WR)<|CN 2<|VV (cb 3 false true .i64 ((((k:Nat):Int) - 4) - 2) 0)<|BB q45<|CN 2<|VV u46<|CC<|VV aaB<|SS WV<|ZZ) (by kernel_rfl)
 have e:D49=dW u n:=by
  rw[MP,xq,xj,kW,kR,kM,kG,Bl,hD,mi (k:=(k - 2)) (m:=k) (i:=(k - 1)) (j:=(k - 2)) o! o! o! o!,mi (k:=(k - 4)) (m:=(k - 2)) (i:=(k - 3)) (j:=(k - 4)) o! o! o! o!,mi (k:=(k - 6)) (m:=(k - 4)) (i:=(k - 5)) (j:=(k - 6)) o! o! o! o!,P7 (m:=(k - 6)) o! o!,hk]
  simp only[dW,List.take_zero,Nat.sub_self,List.nil_append,List.cons_append,List.append_assoc]
  simp only[List.cons.injEq,and_true]
  (repeat' apply And.intro)<;>omega
 rw[e] at MQ
 exact ik rfl (aE Tryz.func108 oL (by kernel_rfl) (.inl rfl) ev (by kernel_rfl)) ⟨WW,MQ,WX⟩ bK zB o!
theorem Qa (x:FB d h l u p o n c op C f k v hl yl W D) (hk:k=6):FG d h u p o n c op C f:=by
 obtain ⟨hn,yg,hf,zB,bK,iI,Oe,hW,Bl,hv,nQ,m8,yG,iO,hD,Bk,Of,wG⟩:=x
 have It:v<1000000:=by have:=hv;rw[hk] at this;exact this
 have rU:Kept p h hl:=m8
 have q1:(decide (4≤((k:Nat):Int)))=true:=(dT o!)
 have u2:aN env .rem 231 false true (some (AV.int .u32 (IntKind.u32.wrap ((v:Nat):Int)))) (some (AV.int .u32 10000))=some (AV.int .u32 ((v%10000:Nat):Int)):=by rw[wG];exact da (k:= .u32) (a:=v) (b:=10000) o!
 have u3:aN env .quo 231 false true (some (AV.int .u32 (IntKind.u32.wrap ((v:Nat):Int)))) (some (AV.int .u32 10000))=some (AV.int .u32 ((v/10000:Nat):Int)):=by rw[wG];exact cZ (k:= .u32) (a:=v) (b:=10000) o! (wrap_u32 o!)
 have u4:aN env .quo 231 false true (some (AV.int .u32 ((v%10000:Nat):Int))) (some (AV.int .u32 100))=some (AV.int .u32 (((v%10000) /100:Nat):Int)):=cZ (k:= .u32) (a:=(v%10000)) (b:=100) o! (wrap_u32 o!)
 have u5:aN env .mul 231 false true (some (AV.int .u32 (((v%10000) /100:Nat):Int))) (some (AV.int .u32 2))=some (AV.int .u32 ((((v%10000) /100)*2:Nat):Int)):=cU (k:= .u32) (a:=((v%10000) /100)) (b:=2) (wrap_u32 o!)
 have u6:aN env .rem 231 false true (some (AV.int .u32 ((v%10000:Nat):Int))) (some (AV.int .u32 100))=some (AV.int .u32 (((v%10000)%100:Nat):Int)):=da (k:= .u32) (a:=(v%10000)) (b:=100) o!
 have u7:aN env .mul 231 false true (some (AV.int .u32 (((v%10000)%100:Nat):Int))) (some (AV.int .u32 2))=some (AV.int .u32 ((((v%10000)%100)*2:Nat):Int)):=cU (k:= .u32) (a:=((v%10000)%100)) (b:=2) (wrap_u32 o!)
 have w8:IntKind.i64.wrap (((k:Nat):Int) - 1)=((k:Nat):Int) - 1:=(wrap_i64 o! o!)
 have w9:IntKind.i64.wrap (((k:Nat):Int) - 2)=((k:Nat):Int) - 2:=(wrap_i64 o! o!)
 have P9:aN env .add 231 false true (some (AV.int .u32 ((((v%10000)%100)*2:Nat):Int))) (some (AV.int .u32 1))=some (AV.int .u32 (((((v%10000)%100)*2)+1:Nat):Int)):=cd (k:= .u32) (a:=(((v%10000)%100)*2)) (b:=1) (wrap_u32 o!)
 have FY:=hH (A:=((v%10000)%100)) o!
 have FZ:=hB (A:=((v%10000)%100)) o!
 have Bm:bP env (some (.slice 5)) (some (AV.slice p o n c op)) (some (AV.int .i64 (((k:Nat):Int) - 1)))=some (AV.ptr p (o+(k - 1))):=bJ (by kernel_rfl) (show (k - 1)<n by omega) o!
 obtain ⟨jz,kE⟩:∃hh:ag,hh=hl.put p (some (aw.cells (setFrom C o (aJ .u8 (D.set (k - 1) (48+((v%10000)%100)%10)))) f false)):=⟨_,rfl⟩
 have wH:a_ env hl 5 (AV.ptr p (o+(k - 1))) (AV.int .u8 ((48+((v%10000)%100)%10:Nat):Int))=some jz:=by rw[kE];exact aZ (by kernel_rfl) o! iO (show (k - 1)<D.length by omega)
 have kF:jS hl jz p (aw.cells (setFrom C o (aJ .u8 (D.set (k - 1) (48+((v%10000)%100)%10)))) f false):=by rw[kE];exact bC nQ iO
 have nH:=kF.1
 have MB:jz.nx=hl.nx:=by rw[kE];rfl
 obtain ⟨wI,kG⟩:∃q_,q_=D.set (k - 1) (48+((v%10000)%100)%10):=⟨_,rfl⟩
 have kH:=kF.2.1
 rw[←kG] at kH
 have wJ:wI.length=n:=by rw[kG,List.length_set];exact Bk
 have kI:Kept p h jz:=rU.trans kF.2.2
 have yH:bP env (some (.slice 5)) (some (AV.slice p o n c op)) (some (AV.int .i64 (((k:Nat):Int) - 2)))=some (AV.ptr p (o+(k - 2))):=bJ (by kernel_rfl) (show (k - 2)<n by omega) o!
 obtain ⟨oN,kJ⟩:∃hh:ag,hh=jz.put p (some (aw.cells (setFrom C o (aJ .u8 (wI.set (k - 2) (48+((v%10000)%100) /10)))) f false)):=⟨_,rfl⟩
 have wK:a_ env jz 5 (AV.ptr p (o+(k - 2))) (AV.int .u8 ((48+((v%10000)%100) /10:Nat):Int))=some oN:=by rw[kJ];exact aZ (by kernel_rfl) o! kH (show (k - 2)<wI.length by omega)
 have kK:jS jz oN p (aw.cells (setFrom C o (aJ .u8 (wI.set (k - 2) (48+((v%10000)%100) /10)))) f false):=by rw[kJ];exact bC nH kH
 have wM:=kK.1
 have MC:oN.nx=jz.nx:=by rw[kJ];rfl
 obtain ⟨wN,kM⟩:∃q_,q_=wI.set (k - 2) (48+((v%10000)%100) /10):=⟨_,rfl⟩
 have kN:=kK.2.1
 rw[←kM] at kN
 have wQ:wN.length=n:=by rw[kM,List.length_set];exact wJ
 have wR:Kept p h oN:=kI.trans kK.2.2
 have Tj:IntKind.i64.wrap (((k:Nat):Int) - 3)=((k:Nat):Int) - 3:=(wrap_i64 o! o!)
 have MD:IntKind.i64.wrap (((k:Nat):Int) - 4)=((k:Nat):Int) - 4:=(wrap_i64 o! o!)
 have Tk:aN env .add 231 false true (some (AV.int .u32 ((((v%10000) /100)*2:Nat):Int))) (some (AV.int .u32 1))=some (AV.int .u32 (((((v%10000) /100)*2)+1:Nat):Int)):=cd (k:= .u32) (a:=(((v%10000) /100)*2)) (b:=1) (wrap_u32 o!)
 have F0:=hH (A:=((v%10000) /100)) o!
 have F1:=hB (A:=((v%10000) /100)) o!
 have F2:bP env (some (.slice 5)) (some (AV.slice p o n c op)) (some (AV.int .i64 (((k:Nat):Int) - 3)))=some (AV.ptr p (o+(k - 3))):=bJ (by kernel_rfl) (show (k - 3)<n by omega) o!
 obtain ⟨oO,kO⟩:∃hh:ag,hh=oN.put p (some (aw.cells (setFrom C o (aJ .u8 (wN.set (k - 3) (48+((v%10000) /100)%10)))) f false)):=⟨_,rfl⟩
 have wV:a_ env oN 5 (AV.ptr p (o+(k - 3))) (AV.int .u8 ((48+((v%10000) /100)%10:Nat):Int))=some oO:=by rw[kO];exact aZ (by kernel_rfl) o! kN (show (k - 3)<wN.length by omega)
 have kQ:jS oN oO p (aw.cells (setFrom C o (aJ .u8 (wN.set (k - 3) (48+((v%10000) /100)%10)))) f false):=by rw[kO];exact bC wM kN
 have wX:=kQ.1
 have ME:oO.nx=oN.nx:=by rw[kO];rfl
 obtain ⟨wY,kR⟩:∃q_,q_=wN.set (k - 3) (48+((v%10000) /100)%10):=⟨_,rfl⟩
 have kS:=kQ.2.1
 rw[←kR] at kS
 have wZ:wY.length=n:=by rw[kR,List.length_set];exact wQ
 have w_:Kept p h oO:=wR.trans kQ.2.2
 have F3:bP env (some (.slice 5)) (some (AV.slice p o n c op)) (some (AV.int .i64 (((k:Nat):Int) - 4)))=some (AV.ptr p (o+(k - 4))):=bJ (by kernel_rfl) (show (k - 4)<n by omega) o!
 obtain ⟨qc,kU⟩:∃hh:ag,hh=oO.put p (some (aw.cells (setFrom C o (aJ .u8 (wY.set (k - 4) (48+((v%10000) /100) /10)))) f false)):=⟨_,rfl⟩
 have xa:a_ env oO 5 (AV.ptr p (o+(k - 4))) (AV.int .u8 ((48+((v%10000) /100) /10:Nat):Int))=some qc:=by rw[kU];exact aZ (by kernel_rfl) o! kS (show (k - 4)<wY.length by omega)
 have kV:jS oO qc p (aw.cells (setFrom C o (aJ .u8 (wY.set (k - 4) (48+((v%10000) /100) /10)))) f false):=by rw[kU];exact bC wX kS
 have xb:=kV.1
 have MF:qc.nx=oO.nx:=by rw[kU];rfl
 obtain ⟨zC,kW⟩:∃q_,q_=wY.set (k - 4) (48+((v%10000) /100) /10):=⟨_,rfl⟩
 have kX:=kV.2.1
 rw[←kW] at kX
 have zD:zC.length=n:=by rw[kW,List.length_set];exact wZ
 have xe:Kept p h qc:=w_.trans kV.2.2
 have Tl:(decide (2≤(((k:Nat):Int) - 4)))=true:=(dT o!)
 have u31:aN env .rem 231 false true (some (AV.int .u32 ((v/10000:Nat):Int))) (some (AV.int .u32 100))=some (AV.int .u32 (((v/10000)%100:Nat):Int)):=da (k:= .u32) (a:=(v/10000)) (b:=100) o!
 have u32:aN env .mul 231 false true (some (AV.int .u32 (((v/10000)%100:Nat):Int))) (some (AV.int .u32 2))=some (AV.int .u32 ((((v/10000)%100)*2:Nat):Int)):=cU (k:= .u32) (a:=((v/10000)%100)) (b:=2) (wrap_u32 o!)
 have u33:aN env .quo 231 false true (some (AV.int .u32 ((v/10000:Nat):Int))) (some (AV.int .u32 100))=some (AV.int .u32 (((v/10000) /100:Nat):Int)):=cZ (k:= .u32) (a:=(v/10000)) (b:=100) o! (wrap_u32 o!)
 have w34:IntKind.i64.wrap ((((k:Nat):Int) - 4) - 1)=(((k:Nat):Int) - 4) - 1:=(wrap_i64 o! o!)
 have WR:IntKind.i64.wrap ((((k:Nat):Int) - 4) - 2)=(((k:Nat):Int) - 4) - 2:=(wrap_i64 o! o!)
 have u36:aN env .add 231 false true (some (AV.int .u32 ((((v/10000)%100)*2:Nat):Int))) (some (AV.int .u32 1))=some (AV.int .u32 (((((v/10000)%100)*2)+1:Nat):Int)):=cd (k:= .u32) (a:=(((v/10000)%100)*2)) (b:=1) (wrap_u32 o!)
 have Tm:=hH (A:=((v/10000)%100)) o!
 have Tn:=hB (A:=((v/10000)%100)) o!
 have To:bP env (some (.slice 5)) (some (AV.slice p o n c op)) (some (AV.int .i64 ((((k:Nat):Int) - 4) - 1)))=some (AV.ptr p (o+(k - 5))):=bJ (by kernel_rfl) (show (k - 5)<n by omega) o!
 obtain ⟨sB,xf⟩:∃hh:ag,hh=qc.put p (some (aw.cells (setFrom C o (aJ .u8 (zC.set (k - 5) (48+((v/10000)%100)%10)))) f false)):=⟨_,rfl⟩
 have MG:a_ env qc 5 (AV.ptr p (o+(k - 5))) (AV.int .u8 ((48+((v/10000)%100)%10:Nat):Int))=some sB:=by rw[xf];exact aZ (by kernel_rfl) o! kX (show (k - 5)<zC.length by omega)
 have xg:jS qc sB p (aw.cells (setFrom C o (aJ .u8 (zC.set (k - 5) (48+((v/10000)%100)%10)))) f false):=by rw[xf];exact bC xb kX
 have xh:=xg.1
 have WS:sB.nx=qc.nx:=by rw[xf];rfl
 obtain ⟨MH,xj⟩:∃q_,q_=zC.set (k - 5) (48+((v/10000)%100)%10):=⟨_,rfl⟩
 have xm:=xg.2.1
 rw[←xj] at xm
 have MI:MH.length=n:=by rw[xj,List.length_set];exact zD
 have qd:Kept p h sB:=xe.trans xg.2.2
 have Tp:bP env (some (.slice 5)) (some (AV.slice p o n c op)) (some (AV.int .i64 ((((k:Nat):Int) - 4) - 2)))=some (AV.ptr p (o+(k - 6))):=bJ (by kernel_rfl) (show (k - 6)<n by omega) o!
 obtain ⟨HI,xn⟩:∃hh:ag,hh=sB.put p (some (aw.cells (setFrom C o (aJ .u8 (MH.set (k - 6) (48+((v/10000)%100) /10)))) f false)):=⟨_,rfl⟩
 have MJ:a_ env sB 5 (AV.ptr p (o+(k - 6))) (AV.int .u8 ((48+((v/10000)%100) /10:Nat):Int))=some HI:=by rw[xn];exact aZ (by kernel_rfl) o! xm (show (k - 6)<MH.length by omega)
 have xp:jS sB HI p (aw.cells (setFrom C o (aJ .u8 (MH.set (k - 6) (48+((v/10000)%100) /10)))) f false):=by rw[xn];exact bC xh xm
 have MK:=xp.1
 have WT:HI.nx=sB.nx:=by rw[xn];rfl
 obtain ⟨RD,xq⟩:∃q_,q_=MH.set (k - 6) (48+((v/10000)%100) /10):=⟨_,rfl⟩
 have xr:=xp.2.1
 rw[←xq] at xr
 have RE:RD.length=n:=by rw[xq,List.length_set];exact MI
 have ML:Kept p h HI:=qd.trans xp.2.2
 have q45:(decide (0<((((k:Nat):Int) - 4) - 2)))=false:=(dF o!)
 have ev:=pk (d) fP ((AV.slice p o n c op)::(AV.int .u64 ((u:Nat):Int))::ck 165) h .normal HI (CN 3<|LL iI<|CN 4<|VV (cR 3 false true .i64 ((k:Nat):Int) 4)<|BB q1<|CC<|VV u2<|CN 2<|VV u3<|CN 2<|VV u4<|VV u5<|CC<|VV u6<|VV u7<|CN 4<|VV (ea 3 false true w8)<|CN 2<|VV (ea 3 false true w9)<|CC<|VV P9<|VV FY<|CC<|VV FZ<|VV Bm<|SS wH<|VV yH<|SS wK<|CN 2<|VV (ea 3 false true Tj)<|CN 2<|VV (ea 3 false true MD)<|CC<|VV Tk<|VV F0<|CC<|VV F1<|VV F2<|SS wV<|VV F3<|SS xa<|CC<|VV (ea 3 false true MD)<|CN 2<|VV (cR 3 false true .i64 (((k:Nat):Int) - 4) 2)<|BB Tl<|CC<|VV u31<|VV u32<|CN 2<|VV u33<|CN 3<|VV (ea 3 false true w34)<|CN 2<|VV (ea 3 false true WR)<|CC<|VV u36<|VV Tm<|CC<|VV Tn<|VV To<|SS MG<|VV Tp<|SS MJ<|CC<|VV (ea 3 false true WR)<|CN 2<|VV (cb 3 false true .i64 ((((k:Nat):Int) - 4) - 2) 0)<|BB q45<|ZZ) (by kernel_rfl)
 have e:RD=dW u n:=by
  rw[xq,xj,kW,kR,kM,kG,Bl,hD,mi (k:=(k - 2)) (m:=k) (i:=(k - 1)) (j:=(k - 2)) o! o! o! o!,mi (k:=(k - 4)) (m:=(k - 2)) (i:=(k - 3)) (j:=(k - 4)) o! o! o! o!,mi (k:=(k - 6)) (m:=(k - 4)) (i:=(k - 5)) (j:=(k - 6)) o! o! o! o!,hk]
  simp only[dW,List.take_zero,Nat.sub_self,List.nil_append,List.cons_append,List.append_assoc]
  simp only[List.cons.injEq,and_true]
  (repeat' apply And.intro)<;>omega
 rw[e] at xr
 exact ik rfl (aE Tryz.func108 oL (by kernel_rfl) (.inl rfl) ev (by kernel_rfl)) ⟨MK,xr,ML⟩ bK zB o!
theorem Qb (x:FB d h l u p o n c op C f k v hl yl W D) (hk:k=5):FG d h u p o n c op C f:=by
 obtain ⟨hn,yg,hf,zB,bK,iI,Oe,hW,Bl,hv,nQ,m8,yG,iO,hD,Bk,Of,wG⟩:=x
 have It:v<100000:=by have:=hv;rw[hk] at this;exact this
 have rU:Kept p h hl:=m8
 have q1:(decide (4≤((k:Nat):Int)))=true:=(dT o!)
 have u2:aN env .rem 231 false true (some (AV.int .u32 (IntKind.u32.wrap ((v:Nat):Int)))) (some (AV.int .u32 10000))=some (AV.int .u32 ((v%10000:Nat):Int)):=by rw[wG];exact da (k:= .u32) (a:=v) (b:=10000) o!
 have u3:aN env .quo 231 false true (some (AV.int .u32 (IntKind.u32.wrap ((v:Nat):Int)))) (some (AV.int .u32 10000))=some (AV.int .u32 ((v/10000:Nat):Int)):=by rw[wG];exact cZ (k:= .u32) (a:=v) (b:=10000) o! (wrap_u32 o!)
 have u4:aN env .quo 231 false true (some (AV.int .u32 ((v%10000:Nat):Int))) (some (AV.int .u32 100))=some (AV.int .u32 (((v%10000) /100:Nat):Int)):=cZ (k:= .u32) (a:=(v%10000)) (b:=100) o! (wrap_u32 o!)
 have u5:aN env .mul 231 false true (some (AV.int .u32 (((v%10000) /100:Nat):Int))) (some (AV.int .u32 2))=some (AV.int .u32 ((((v%10000) /100)*2:Nat):Int)):=cU (k:= .u32) (a:=((v%10000) /100)) (b:=2) (wrap_u32 o!)
 have u6:aN env .rem 231 false true (some (AV.int .u32 ((v%10000:Nat):Int))) (some (AV.int .u32 100))=some (AV.int .u32 (((v%10000)%100:Nat):Int)):=da (k:= .u32) (a:=(v%10000)) (b:=100) o!
 have u7:aN env .mul 231 false true (some (AV.int .u32 (((v%10000)%100:Nat):Int))) (some (AV.int .u32 2))=some (AV.int .u32 ((((v%10000)%100)*2:Nat):Int)):=cU (k:= .u32) (a:=((v%10000)%100)) (b:=2) (wrap_u32 o!)
 have w8:IntKind.i64.wrap (((k:Nat):Int) - 1)=((k:Nat):Int) - 1:=(wrap_i64 o! o!)
 have w9:IntKind.i64.wrap (((k:Nat):Int) - 2)=((k:Nat):Int) - 2:=(wrap_i64 o! o!)
 have P9:aN env .add 231 false true (some (AV.int .u32 ((((v%10000)%100)*2:Nat):Int))) (some (AV.int .u32 1))=some (AV.int .u32 (((((v%10000)%100)*2)+1:Nat):Int)):=cd (k:= .u32) (a:=(((v%10000)%100)*2)) (b:=1) (wrap_u32 o!)
 have FY:=hH (A:=((v%10000)%100)) o!
 have FZ:=hB (A:=((v%10000)%100)) o!
 have Bm:bP env (some (.slice 5)) (some (AV.slice p o n c op)) (some (AV.int .i64 (((k:Nat):Int) - 1)))=some (AV.ptr p (o+(k - 1))):=bJ (by kernel_rfl) (show (k - 1)<n by omega) o!
 obtain ⟨jz,kE⟩:∃hh:ag,hh=hl.put p (some (aw.cells (setFrom C o (aJ .u8 (D.set (k - 1) (48+((v%10000)%100)%10)))) f false)):=⟨_,rfl⟩
 have wH:a_ env hl 5 (AV.ptr p (o+(k - 1))) (AV.int .u8 ((48+((v%10000)%100)%10:Nat):Int))=some jz:=by rw[kE];exact aZ (by kernel_rfl) o! iO (show (k - 1)<D.length by omega)
 have kF:jS hl jz p (aw.cells (setFrom C o (aJ .u8 (D.set (k - 1) (48+((v%10000)%100)%10)))) f false):=by rw[kE];exact bC nQ iO
 have nH:=kF.1
 have MB:jz.nx=hl.nx:=by rw[kE];rfl
 obtain ⟨wI,kG⟩:∃q_,q_=D.set (k - 1) (48+((v%10000)%100)%10):=⟨_,rfl⟩
 have kH:=kF.2.1
 rw[←kG] at kH
 have wJ:wI.length=n:=by rw[kG,List.length_set];exact Bk
 have kI:Kept p h jz:=rU.trans kF.2.2
 have yH:bP env (some (.slice 5)) (some (AV.slice p o n c op)) (some (AV.int .i64 (((k:Nat):Int) - 2)))=some (AV.ptr p (o+(k - 2))):=bJ (by kernel_rfl) (show (k - 2)<n by omega) o!
 obtain ⟨oN,kJ⟩:∃hh:ag,hh=jz.put p (some (aw.cells (setFrom C o (aJ .u8 (wI.set (k - 2) (48+((v%10000)%100) /10)))) f false)):=⟨_,rfl⟩
 have wK:a_ env jz 5 (AV.ptr p (o+(k - 2))) (AV.int .u8 ((48+((v%10000)%100) /10:Nat):Int))=some oN:=by rw[kJ];exact aZ (by kernel_rfl) o! kH (show (k - 2)<wI.length by omega)
 have kK:jS jz oN p (aw.cells (setFrom C o (aJ .u8 (wI.set (k - 2) (48+((v%10000)%100) /10)))) f false):=by rw[kJ];exact bC nH kH
 have wM:=kK.1
 have MC:oN.nx=jz.nx:=by rw[kJ];rfl
 obtain ⟨wN,kM⟩:∃q_,q_=wI.set (k - 2) (48+((v%10000)%100) /10):=⟨_,rfl⟩
 have kN:=kK.2.1
 rw[←kM] at kN
 have wQ:wN.length=n:=by rw[kM,List.length_set];exact wJ
 have wR:Kept p h oN:=kI.trans kK.2.2
 have Tj:IntKind.i64.wrap (((k:Nat):Int) - 3)=((k:Nat):Int) - 3:=(wrap_i64 o! o!)
 have MD:IntKind.i64.wrap (((k:Nat):Int) - 4)=((k:Nat):Int) - 4:=(wrap_i64 o! o!)
 have Tk:aN env .add 231 false true (some (AV.int .u32 ((((v%10000) /100)*2:Nat):Int))) (some (AV.int .u32 1))=some (AV.int .u32 (((((v%10000) /100)*2)+1:Nat):Int)):=cd (k:= .u32) (a:=(((v%10000) /100)*2)) (b:=1) (wrap_u32 o!)
 have F0:=hH (A:=((v%10000) /100)) o!
 have F1:=hB (A:=((v%10000) /100)) o!
 have F2:bP env (some (.slice 5)) (some (AV.slice p o n c op)) (some (AV.int .i64 (((k:Nat):Int) - 3)))=some (AV.ptr p (o+(k - 3))):=bJ (by kernel_rfl) (show (k - 3)<n by omega) o!
 obtain ⟨oO,kO⟩:∃hh:ag,hh=oN.put p (some (aw.cells (setFrom C o (aJ .u8 (wN.set (k - 3) (48+((v%10000) /100)%10)))) f false)):=⟨_,rfl⟩
 have wV:a_ env oN 5 (AV.ptr p (o+(k - 3))) (AV.int .u8 ((48+((v%10000) /100)%10:Nat):Int))=some oO:=by rw[kO];exact aZ (by kernel_rfl) o! kN (show (k - 3)<wN.length by omega)
 have kQ:jS oN oO p (aw.cells (setFrom C o (aJ .u8 (wN.set (k - 3) (48+((v%10000) /100)%10)))) f false):=by rw[kO];exact bC wM kN
 have wX:=kQ.1
 have ME:oO.nx=oN.nx:=by rw[kO];rfl
 obtain ⟨wY,kR⟩:∃q_,q_=wN.set (k - 3) (48+((v%10000) /100)%10):=⟨_,rfl⟩
 have kS:=kQ.2.1
 rw[←kR] at kS
 have wZ:wY.length=n:=by rw[kR,List.length_set];exact wQ
 have w_:Kept p h oO:=wR.trans kQ.2.2
 have F3:bP env (some (.slice 5)) (some (AV.slice p o n c op)) (some (AV.int .i64 (((k:Nat):Int) - 4)))=some (AV.ptr p (o+(k - 4))):=bJ (by kernel_rfl) (show (k - 4)<n by omega) o!
 obtain ⟨qc,kU⟩:∃hh:ag,hh=oO.put p (some (aw.cells (setFrom C o (aJ .u8 (wY.set (k - 4) (48+((v%10000) /100) /10)))) f false)):=⟨_,rfl⟩
 have xa:a_ env oO 5 (AV.ptr p (o+(k - 4))) (AV.int .u8 ((48+((v%10000) /100) /10:Nat):Int))=some qc:=by rw[kU];exact aZ (by kernel_rfl) o! kS (show (k - 4)<wY.length by omega)
 have kV:jS oO qc p (aw.cells (setFrom C o (aJ .u8 (wY.set (k - 4) (48+((v%10000) /100) /10)))) f false):=by rw[kU];exact bC wX kS
 have xb:=kV.1
 have MF:qc.nx=oO.nx:=by rw[kU];rfl
 obtain ⟨zC,kW⟩:∃q_,q_=wY.set (k - 4) (48+((v%10000) /100) /10):=⟨_,rfl⟩
 have kX:=kV.2.1
 rw[←kW] at kX
 have zD:zC.length=n:=by rw[kW,List.length_set];exact wZ
 have xe:Kept p h qc:=w_.trans kV.2.2
 have Tl:(decide (2≤(((k:Nat):Int) - 4)))=false:=(dF o!)
 have q31:(decide (0<(((k:Nat):Int) - 4)))=true:=(dT o!)
 have u32:aN env .add 231 true false (some (AV.int .u32 48)) (some (AV.int .u32 ((v/10000:Nat):Int)))=some (AV.int .u32 ((48+(v/10000):Nat):Int)):=cd (k:= .u32) (a:=48) (b:=(v/10000)) (wrap_u32 o!)
 have Ti:bP env (some (.slice 5)) (some (AV.slice p o n c op)) (some (AV.int .i64 0))=some (AV.ptr p (o+0)):=bJ (by kernel_rfl) (show 0<n by omega) o!
 obtain ⟨HG,wC⟩:∃hh:ag,hh=qc.put p (some (aw.cells (setFrom C o (aJ .u8 (zC.set 0 (48+(v/10000))))) f false)):=⟨_,rfl⟩
 have Mj:a_ env qc 5 (AV.ptr p (o+0)) (AV.int .u8 (IntKind.u8.wrap ((48+(v/10000):Nat):Int)))=some HG:=by rw[wC,(wrap_u8 (n:=48+(v/10000)) o!)];exact aZ (by kernel_rfl) o! kX (show 0<zC.length by omega)
 have wD:jS qc HG p (aw.cells (setFrom C o (aJ .u8 (zC.set 0 (48+(v/10000))))) f false):=by rw[wC];exact bC xb kX
 have Mk:=wD.1
 have Ww:HG.nx=qc.nx:=by rw[wC];rfl
 obtain ⟨Rw,wE⟩:∃q_,q_=zC.set 0 (48+(v/10000)):=⟨_,rfl⟩
 have wF:=wD.2.1
 rw[←wE] at wF
 have Rx:Rw.length=n:=by rw[wE,List.length_set];exact zD
 have Ml:Kept p h HG:=xe.trans wD.2.2
 have ev:=pk (d) fP ((AV.slice p o n c op)::(AV.int .u64 ((u:Nat):Int))::ck 165) h .normal HG (CN 3<|LL iI<|CN 4<|VV (cR 3 false true .i64 ((k:Nat):Int) 4)<|BB q1<|CC<|VV u2<|CN 2<|VV u3<|CN 2<|VV u4<|VV u5<|CC<|VV u6<|VV u7<|CN 4<|VV (ea 3 false true w8)<|CN 2<|VV (ea 3 false true w9)<|CC<|VV P9<|VV FY<|CC<|VV FZ<|VV Bm<|SS wH<|VV yH<|SS wK<|CN 2<|VV (ea 3 false true Tj)<|CN 2<|VV (ea 3 false true MD)<|CC<|VV Tk<|VV F0<|CC<|VV F1<|VV F2<|SS wV<|VV F3<|SS xa<|CC<|VV (ea 3 false true MD)<|CN 2<|VV (cR 3 false true .i64 (((k:Nat):Int) - 4) 2)<|BB Tl<|CC<|VV (cb 3 false true .i64 (((k:Nat):Int) - 4) 0)<|BB q31<|CN 2<|VV u32<|CC<|VV Ti<|SS Mj<|ZZ) (by kernel_rfl)
 have e:Rw=dW u n:=by
  rw[wE,kW,kR,kM,kG,Bl,hD,mi (k:=(k - 2)) (m:=k) (i:=(k - 1)) (j:=(k - 2)) o! o! o! o!,mi (k:=(k - 4)) (m:=(k - 2)) (i:=(k - 3)) (j:=(k - 4)) o! o! o! o!,P7 (m:=(k - 4)) o! o!,hk]
  simp only[dW,List.take_zero,Nat.sub_self,List.nil_append,List.cons_append,List.append_assoc]
  simp only[List.cons.injEq,and_true]
  (repeat' apply And.intro)<;>omega
 rw[e] at wF
 exact ik rfl (aE Tryz.func108 oL (by kernel_rfl) (.inl rfl) ev (by kernel_rfl)) ⟨Mk,wF,Ml⟩ bK zB o!
theorem Qc (x:FB d h l u p o n c op C f k v hl yl W D) (hk:k=4):FG d h u p o n c op C f:=by
 obtain ⟨hn,yg,hf,zB,bK,iI,Oe,hW,Bl,hv,nQ,m8,yG,iO,hD,Bk,Of,wG⟩:=x
 have It:v<10000:=by have:=hv;rw[hk] at this;exact this
 have rU:Kept p h hl:=m8
 have q1:(decide (4≤((k:Nat):Int)))=true:=(dT o!)
 have u2:aN env .rem 231 false true (some (AV.int .u32 (IntKind.u32.wrap ((v:Nat):Int)))) (some (AV.int .u32 10000))=some (AV.int .u32 ((v%10000:Nat):Int)):=by rw[wG];exact da (k:= .u32) (a:=v) (b:=10000) o!
 have u3:aN env .quo 231 false true (some (AV.int .u32 (IntKind.u32.wrap ((v:Nat):Int)))) (some (AV.int .u32 10000))=some (AV.int .u32 ((v/10000:Nat):Int)):=by rw[wG];exact cZ (k:= .u32) (a:=v) (b:=10000) o! (wrap_u32 o!)
 have u4:aN env .quo 231 false true (some (AV.int .u32 ((v%10000:Nat):Int))) (some (AV.int .u32 100))=some (AV.int .u32 (((v%10000) /100:Nat):Int)):=cZ (k:= .u32) (a:=(v%10000)) (b:=100) o! (wrap_u32 o!)
 have u5:aN env .mul 231 false true (some (AV.int .u32 (((v%10000) /100:Nat):Int))) (some (AV.int .u32 2))=some (AV.int .u32 ((((v%10000) /100)*2:Nat):Int)):=cU (k:= .u32) (a:=((v%10000) /100)) (b:=2) (wrap_u32 o!)
 have u6:aN env .rem 231 false true (some (AV.int .u32 ((v%10000:Nat):Int))) (some (AV.int .u32 100))=some (AV.int .u32 (((v%10000)%100:Nat):Int)):=da (k:= .u32) (a:=(v%10000)) (b:=100) o!
 have u7:aN env .mul 231 false true (some (AV.int .u32 (((v%10000)%100:Nat):Int))) (some (AV.int .u32 2))=some (AV.int .u32 ((((v%10000)%100)*2:Nat):Int)):=cU (k:= .u32) (a:=((v%10000)%100)) (b:=2) (wrap_u32 o!)
 have w8:IntKind.i64.wrap (((k:Nat):Int) - 1)=((k:Nat):Int) - 1:=(wrap_i64 o! o!)
 have w9:IntKind.i64.wrap (((k:Nat):Int) - 2)=((k:Nat):Int) - 2:=(wrap_i64 o! o!)
 have P9:aN env .add 231 false true (some (AV.int .u32 ((((v%10000)%100)*2:Nat):Int))) (some (AV.int .u32 1))=some (AV.int .u32 (((((v%10000)%100)*2)+1:Nat):Int)):=cd (k:= .u32) (a:=(((v%10000)%100)*2)) (b:=1) (wrap_u32 o!)
 have FY:=hH (A:=((v%10000)%100)) o!
 have FZ:=hB (A:=((v%10000)%100)) o!
 have Bm:bP env (some (.slice 5)) (some (AV.slice p o n c op)) (some (AV.int .i64 (((k:Nat):Int) - 1)))=some (AV.ptr p (o+(k - 1))):=bJ (by kernel_rfl) (show (k - 1)<n by omega) o!
 obtain ⟨jz,kE⟩:∃hh:ag,hh=hl.put p (some (aw.cells (setFrom C o (aJ .u8 (D.set (k - 1) (48+((v%10000)%100)%10)))) f false)):=⟨_,rfl⟩
 have wH:a_ env hl 5 (AV.ptr p (o+(k - 1))) (AV.int .u8 ((48+((v%10000)%100)%10:Nat):Int))=some jz:=by rw[kE];exact aZ (by kernel_rfl) o! iO (show (k - 1)<D.length by omega)
 have kF:jS hl jz p (aw.cells (setFrom C o (aJ .u8 (D.set (k - 1) (48+((v%10000)%100)%10)))) f false):=by rw[kE];exact bC nQ iO
 have nH:=kF.1
 have MB:jz.nx=hl.nx:=by rw[kE];rfl
 obtain ⟨wI,kG⟩:∃q_,q_=D.set (k - 1) (48+((v%10000)%100)%10):=⟨_,rfl⟩
 have kH:=kF.2.1
 rw[←kG] at kH
 have wJ:wI.length=n:=by rw[kG,List.length_set];exact Bk
 have kI:Kept p h jz:=rU.trans kF.2.2
 have yH:bP env (some (.slice 5)) (some (AV.slice p o n c op)) (some (AV.int .i64 (((k:Nat):Int) - 2)))=some (AV.ptr p (o+(k - 2))):=bJ (by kernel_rfl) (show (k - 2)<n by omega) o!
 obtain ⟨oN,kJ⟩:∃hh:ag,hh=jz.put p (some (aw.cells (setFrom C o (aJ .u8 (wI.set (k - 2) (48+((v%10000)%100) /10)))) f false)):=⟨_,rfl⟩
 have wK:a_ env jz 5 (AV.ptr p (o+(k - 2))) (AV.int .u8 ((48+((v%10000)%100) /10:Nat):Int))=some oN:=by rw[kJ];exact aZ (by kernel_rfl) o! kH (show (k - 2)<wI.length by omega)
 have kK:jS jz oN p (aw.cells (setFrom C o (aJ .u8 (wI.set (k - 2) (48+((v%10000)%100) /10)))) f false):=by rw[kJ];exact bC nH kH
 have wM:=kK.1
 have MC:oN.nx=jz.nx:=by rw[kJ];rfl
 obtain ⟨wN,kM⟩:∃q_,q_=wI.set (k - 2) (48+((v%10000)%100) /10):=⟨_,rfl⟩
 have kN:=kK.2.1
 rw[←kM] at kN
 have wQ:wN.length=n:=by rw[kM,List.length_set];exact wJ
 have wR:Kept p h oN:=kI.trans kK.2.2
 have Tj:IntKind.i64.wrap (((k:Nat):Int) - 3)=((k:Nat):Int) - 3:=(wrap_i64 o! o!)
 have MD:IntKind.i64.wrap (((k:Nat):Int) - 4)=((k:Nat):Int) - 4:=(wrap_i64 o! o!)
 have Tk:aN env .add 231 false true (some (AV.int .u32 ((((v%10000) /100)*2:Nat):Int))) (some (AV.int .u32 1))=some (AV.int .u32 (((((v%10000) /100)*2)+1:Nat):Int)):=cd (k:= .u32) (a:=(((v%10000) /100)*2)) (b:=1) (wrap_u32 o!)
 have F0:=hH (A:=((v%10000) /100)) o!
 have F1:=hB (A:=((v%10000) /100)) o!
 have F2:bP env (some (.slice 5)) (some (AV.slice p o n c op)) (some (AV.int .i64 (((k:Nat):Int) - 3)))=some (AV.ptr p (o+(k - 3))):=bJ (by kernel_rfl) (show (k - 3)<n by omega) o!
 obtain ⟨oO,kO⟩:∃hh:ag,hh=oN.put p (some (aw.cells (setFrom C o (aJ .u8 (wN.set (k - 3) (48+((v%10000) /100)%10)))) f false)):=⟨_,rfl⟩
 have wV:a_ env oN 5 (AV.ptr p (o+(k - 3))) (AV.int .u8 ((48+((v%10000) /100)%10:Nat):Int))=some oO:=by rw[kO];exact aZ (by kernel_rfl) o! kN (show (k - 3)<wN.length by omega)
 have kQ:jS oN oO p (aw.cells (setFrom C o (aJ .u8 (wN.set (k - 3) (48+((v%10000) /100)%10)))) f false):=by rw[kO];exact bC wM kN
 have wX:=kQ.1
 have ME:oO.nx=oN.nx:=by rw[kO];rfl
 obtain ⟨wY,kR⟩:∃q_,q_=wN.set (k - 3) (48+((v%10000) /100)%10):=⟨_,rfl⟩
 have kS:=kQ.2.1
 rw[←kR] at kS
 have wZ:wY.length=n:=by rw[kR,List.length_set];exact wQ
 have w_:Kept p h oO:=wR.trans kQ.2.2
 have F3:bP env (some (.slice 5)) (some (AV.slice p o n c op)) (some (AV.int .i64 (((k:Nat):Int) - 4)))=some (AV.ptr p (o+(k - 4))):=bJ (by kernel_rfl) (show (k - 4)<n by omega) o!
 obtain ⟨qc,kU⟩:∃hh:ag,hh=oO.put p (some (aw.cells (setFrom C o (aJ .u8 (wY.set (k - 4) (48+((v%10000) /100) /10)))) f false)):=⟨_,rfl⟩
 have xa:a_ env oO 5 (AV.ptr p (o+(k - 4))) (AV.int .u8 ((48+((v%10000) /100) /10:Nat):Int))=some qc:=by rw[kU];exact aZ (by kernel_rfl) o! kS (show (k - 4)<wY.length by omega)
 have kV:jS oO qc p (aw.cells (setFrom C o (aJ .u8 (wY.set (k - 4) (48+((v%10000) /100) /10)))) f false):=by rw[kU];exact bC wX kS
 have xb:=kV.1
 have MF:qc.nx=oO.nx:=by rw[kU];rfl
 obtain ⟨zC,kW⟩:∃q_,q_=wY.set (k - 4) (48+((v%10000) /100) /10):=⟨_,rfl⟩
 have kX:=kV.2.1
 rw[←kW] at kX
 have zD:zC.length=n:=by rw[kW,List.length_set];exact wZ
 have xe:Kept p h qc:=w_.trans kV.2.2
 have Tl:(decide (2≤(((k:Nat):Int) - 4)))=false:=(dF o!)
 have q31:(decide (0<(((k:Nat):Int) - 4)))=false:=(dF o!)
 have ev:=pk (d) fP ((AV.slice p o n c op)::(AV.int .u64 ((u:Nat):Int))::ck 165) h .normal qc (CN 3<|LL iI<|CN 4<|VV (cR 3 false true .i64 ((k:Nat):Int) 4)<|BB q1<|CC<|VV u2<|CN 2<|VV u3<|CN 2<|VV u4<|VV u5<|CC<|VV u6<|VV u7<|CN 4<|VV (ea 3 false true w8)<|CN 2<|VV (ea 3 false true w9)<|CC<|VV P9<|VV FY<|CC<|VV FZ<|VV Bm<|SS wH<|VV yH<|SS wK<|CN 2<|VV (ea 3 false true Tj)<|CN 2<|VV (ea 3 false true MD)<|CC<|VV Tk<|VV F0<|CC<|VV F1<|VV F2<|SS wV<|VV F3<|SS xa<|CC<|VV (ea 3 false true MD)<|CN 2<|VV (cR 3 false true .i64 (((k:Nat):Int) - 4) 2)<|BB Tl<|CC<|VV (cb 3 false true .i64 (((k:Nat):Int) - 4) 0)<|BB q31<|ZZ) (by kernel_rfl)
 have e:zC=dW u n:=by
  rw[kW,kR,kM,kG,Bl,hD,mi (k:=(k - 2)) (m:=k) (i:=(k - 1)) (j:=(k - 2)) o! o! o! o!,mi (k:=(k - 4)) (m:=(k - 2)) (i:=(k - 3)) (j:=(k - 4)) o! o! o! o!,hk]
  simp only[dW,List.take_zero,Nat.sub_self,List.nil_append,List.cons_append,List.append_assoc]
  simp only[List.cons.injEq,and_true]
  (repeat' apply And.intro)<;>omega
 rw[e] at kX
 exact ik rfl (aE Tryz.func108 oL (by kernel_rfl) (.inl rfl) ev (by kernel_rfl)) ⟨xb,kX,xe⟩ bK zB o!
theorem Qd (x:FB d h l u p o n c op C f k v hl yl W D) (hk:k=3):FG d h u p o n c op C f:=by
 obtain ⟨hn,yg,hf,zB,bK,iI,Oe,hW,Bl,hv,nQ,m8,yG,iO,hD,Bk,Of,wG⟩:=x
 have It:v<1000:=by have:=hv;rw[hk] at this;exact this
 have rU:Kept p h hl:=m8
 have q1:(decide (4≤((k:Nat):Int)))=false:=(dF o!)
 have q2:(decide (2≤((k:Nat):Int)))=true:=(dT o!)
 have u3:aN env .rem 231 false true (some (AV.int .u32 (IntKind.u32.wrap ((v:Nat):Int)))) (some (AV.int .u32 100))=some (AV.int .u32 ((v%100:Nat):Int)):=by rw[wG];exact da (k:= .u32) (a:=v) (b:=100) o!
 have u4:aN env .mul 231 false true (some (AV.int .u32 ((v%100:Nat):Int))) (some (AV.int .u32 2))=some (AV.int .u32 (((v%100)*2:Nat):Int)):=cU (k:= .u32) (a:=(v%100)) (b:=2) (wrap_u32 o!)
 have u5:aN env .quo 231 false true (some (AV.int .u32 (IntKind.u32.wrap ((v:Nat):Int)))) (some (AV.int .u32 100))=some (AV.int .u32 ((v/100:Nat):Int)):=by rw[wG];exact cZ (k:= .u32) (a:=v) (b:=100) o! (wrap_u32 o!)
 have w6:IntKind.i64.wrap (((k:Nat):Int) - 1)=((k:Nat):Int) - 1:=(wrap_i64 o! o!)
 have w7:IntKind.i64.wrap (((k:Nat):Int) - 2)=((k:Nat):Int) - 2:=(wrap_i64 o! o!)
 have u8:aN env .add 231 false true (some (AV.int .u32 (((v%100)*2:Nat):Int))) (some (AV.int .u32 1))=some (AV.int .u32 ((((v%100)*2)+1:Nat):Int)):=cd (k:= .u32) (a:=((v%100)*2)) (b:=1) (wrap_u32 o!)
 have ti9:=hH (A:=(v%100)) o!
 have Tq:=hB (A:=(v%100)) o!
 have Tr:bP env (some (.slice 5)) (some (AV.slice p o n c op)) (some (AV.int .i64 (((k:Nat):Int) - 1)))=some (AV.ptr p (o+(k - 1))):=bJ (by kernel_rfl) (show (k - 1)<n by omega) o!
 obtain ⟨sC,xu⟩:∃hh:ag,hh=hl.put p (some (aw.cells (setFrom C o (aJ .u8 (D.set (k - 1) (48+(v%100)%10)))) f false)):=⟨_,rfl⟩
 have MR:a_ env hl 5 (AV.ptr p (o+(k - 1))) (AV.int .u8 ((48+(v%100)%10:Nat):Int))=some sC:=by rw[xu];exact aZ (by kernel_rfl) o! iO (show (k - 1)<D.length by omega)
 have xw:jS hl sC p (aw.cells (setFrom C o (aJ .u8 (D.set (k - 1) (48+(v%100)%10)))) f false):=by rw[xu];exact bC nQ iO
 have rV:=xw.1
 have MS:sC.nx=hl.nx:=by rw[xu];rfl
 obtain ⟨MT,xy⟩:∃q_,q_=D.set (k - 1) (48+(v%100)%10):=⟨_,rfl⟩
 have oP:=xw.2.1
 rw[←xy] at oP
 have MU:MT.length=n:=by rw[xy,List.length_set];exact Bk
 have rW:Kept p h sC:=rU.trans xw.2.2
 have MV:bP env (some (.slice 5)) (some (AV.slice p o n c op)) (some (AV.int .i64 (((k:Nat):Int) - 2)))=some (AV.ptr p (o+(k - 2))):=bJ (by kernel_rfl) (show (k - 2)<n by omega) o!
 obtain ⟨HJ,xz⟩:∃hh:ag,hh=sC.put p (some (aw.cells (setFrom C o (aJ .u8 (MT.set (k - 2) (48+(v%100) /10)))) f false)):=⟨_,rfl⟩
 have MW:a_ env sC 5 (AV.ptr p (o+(k - 2))) (AV.int .u8 ((48+(v%100) /10:Nat):Int))=some HJ:=by rw[xz];exact aZ (by kernel_rfl) o! oP (show (k - 2)<MT.length by omega)
 have xA:jS sC HJ p (aw.cells (setFrom C o (aJ .u8 (MT.set (k - 2) (48+(v%100) /10)))) f false):=by rw[xz];exact bC rV oP
 have MX:=xA.1
 have WY:HJ.nx=sC.nx:=by rw[xz];rfl
 obtain ⟨RG,xB⟩:∃q_,q_=MT.set (k - 2) (48+(v%100) /10):=⟨_,rfl⟩
 have xC:=xA.2.1
 rw[←xB] at xC
 have RH:RG.length=n:=by rw[xB,List.length_set];exact MU
 have MY:Kept p h HJ:=rW.trans xA.2.2
 have UW:(decide (0<(((k:Nat):Int) - 2)))=true:=(dT o!)
 have WZ:aN env .add 231 true false (some (AV.int .u32 48)) (some (AV.int .u32 ((v/100:Nat):Int)))=some (AV.int .u32 ((48+(v/100):Nat):Int)):=cd (k:= .u32) (a:=48) (b:=(v/100)) (wrap_u32 o!)
 have Th:bP env (some (.slice 5)) (some (AV.slice p o n c op)) (some (AV.int .i64 0))=some (AV.ptr p (o+0)):=bJ (by kernel_rfl) (show 0<n by omega) o!
 obtain ⟨HF,wx⟩:∃hh:ag,hh=HJ.put p (some (aw.cells (setFrom C o (aJ .u8 (RG.set 0 (48+(v/100))))) f false)):=⟨_,rfl⟩
 have L9:a_ env HJ 5 (AV.ptr p (o+0)) (AV.int .u8 (IntKind.u8.wrap ((48+(v/100):Nat):Int)))=some HF:=by rw[wx,(wrap_u8 (n:=48+(v/100)) o!)];exact aZ (by kernel_rfl) o! xC (show 0<RG.length by omega)
 have wy:jS HJ HF p (aw.cells (setFrom C o (aJ .u8 (RG.set 0 (48+(v/100))))) f false):=by rw[wx];exact bC MX xC
 have L_:=wy.1
 have Wm:HF.nx=HJ.nx:=by rw[wx];rfl
 obtain ⟨Rt,wz⟩:∃q_,q_=RG.set 0 (48+(v/100)):=⟨_,rfl⟩
 have wB:=wy.2.1
 rw[←wz] at wB
 have Ru:Rt.length=n:=by rw[wz,List.length_set];exact RH
 have Ma:Kept p h HF:=MY.trans wy.2.2
 have ev:=pk (d) fP ((AV.slice p o n c op)::(AV.int .u64 ((u:Nat):Int))::ck 165) h .normal HF (CN 3<|LL iI<|CN 4<|VV (cR 3 false true .i64 ((k:Nat):Int) 4)<|BB q1<|CC<|VV (cR 3 false true .i64 ((k:Nat):Int) 2)<|BB q2<|CC<|VV u3<|VV u4<|CN 2<|VV u5<|CN 3<|VV (ea 3 false true w6)<|CN 2<|VV (ea 3 false true w7)<|CC<|VV u8<|VV ti9<|CC<|VV Tq<|VV Tr<|SS MR<|VV MV<|SS MW<|CC<|VV (ea 3 false true w7)<|CN 2<|VV (cb 3 false true .i64 (((k:Nat):Int) - 2) 0)<|BB UW<|CN 2<|VV WZ<|CC<|VV Th<|SS L9<|ZZ) (by kernel_rfl)
 have e:Rt=dW u n:=by
  rw[wz,xB,xy,Bl,hD,mi (k:=(k - 2)) (m:=k) (i:=(k - 1)) (j:=(k - 2)) o! o! o! o!,P7 (m:=(k - 2)) o! o!,hk]
  simp only[dW,List.take_zero,Nat.sub_self,List.nil_append,List.cons_append,List.append_assoc]
  simp only[List.cons.injEq,and_true]
  (repeat' apply And.intro)<;>omega
 rw[e] at wB
 exact ik rfl (aE Tryz.func108 oL (by kernel_rfl) (.inl rfl) ev (by kernel_rfl)) ⟨L_,wB,Ma⟩ bK zB o!
theorem Qe (x:FB d h l u p o n c op C f k v hl yl W D) (hk:k=2):FG d h u p o n c op C f:=by
 obtain ⟨hn,yg,hf,zB,bK,iI,Oe,hW,Bl,hv,nQ,m8,yG,iO,hD,Bk,Of,wG⟩:=x
 have It:v<100:=by have:=hv;rw[hk] at this;exact this
 have rU:Kept p h hl:=m8
 have q1:(decide (4≤((k:Nat):Int)))=false:=(dF o!)
 have q2:(decide (2≤((k:Nat):Int)))=true:=(dT o!)
 have u3:aN env .rem 231 false true (some (AV.int .u32 (IntKind.u32.wrap ((v:Nat):Int)))) (some (AV.int .u32 100))=some (AV.int .u32 ((v%100:Nat):Int)):=by rw[wG];exact da (k:= .u32) (a:=v) (b:=100) o!
 have u4:aN env .mul 231 false true (some (AV.int .u32 ((v%100:Nat):Int))) (some (AV.int .u32 2))=some (AV.int .u32 (((v%100)*2:Nat):Int)):=cU (k:= .u32) (a:=(v%100)) (b:=2) (wrap_u32 o!)
 have u5:aN env .quo 231 false true (some (AV.int .u32 (IntKind.u32.wrap ((v:Nat):Int)))) (some (AV.int .u32 100))=some (AV.int .u32 ((v/100:Nat):Int)):=by rw[wG];exact cZ (k:= .u32) (a:=v) (b:=100) o! (wrap_u32 o!)
 have w6:IntKind.i64.wrap (((k:Nat):Int) - 1)=((k:Nat):Int) - 1:=(wrap_i64 o! o!)
 have w7:IntKind.i64.wrap (((k:Nat):Int) - 2)=((k:Nat):Int) - 2:=(wrap_i64 o! o!)
 have u8:aN env .add 231 false true (some (AV.int .u32 (((v%100)*2:Nat):Int))) (some (AV.int .u32 1))=some (AV.int .u32 ((((v%100)*2)+1:Nat):Int)):=cd (k:= .u32) (a:=((v%100)*2)) (b:=1) (wrap_u32 o!)
 have ti9:=hH (A:=(v%100)) o!
 have Tq:=hB (A:=(v%100)) o!
 have Tr:bP env (some (.slice 5)) (some (AV.slice p o n c op)) (some (AV.int .i64 (((k:Nat):Int) - 1)))=some (AV.ptr p (o+(k - 1))):=bJ (by kernel_rfl) (show (k - 1)<n by omega) o!
 obtain ⟨sC,xu⟩:∃hh:ag,hh=hl.put p (some (aw.cells (setFrom C o (aJ .u8 (D.set (k - 1) (48+(v%100)%10)))) f false)):=⟨_,rfl⟩
 have MR:a_ env hl 5 (AV.ptr p (o+(k - 1))) (AV.int .u8 ((48+(v%100)%10:Nat):Int))=some sC:=by rw[xu];exact aZ (by kernel_rfl) o! iO (show (k - 1)<D.length by omega)
 have xw:jS hl sC p (aw.cells (setFrom C o (aJ .u8 (D.set (k - 1) (48+(v%100)%10)))) f false):=by rw[xu];exact bC nQ iO
 have rV:=xw.1
 have MS:sC.nx=hl.nx:=by rw[xu];rfl
 obtain ⟨MT,xy⟩:∃q_,q_=D.set (k - 1) (48+(v%100)%10):=⟨_,rfl⟩
 have oP:=xw.2.1
 rw[←xy] at oP
 have MU:MT.length=n:=by rw[xy,List.length_set];exact Bk
 have rW:Kept p h sC:=rU.trans xw.2.2
 have MV:bP env (some (.slice 5)) (some (AV.slice p o n c op)) (some (AV.int .i64 (((k:Nat):Int) - 2)))=some (AV.ptr p (o+(k - 2))):=bJ (by kernel_rfl) (show (k - 2)<n by omega) o!
 obtain ⟨HJ,xz⟩:∃hh:ag,hh=sC.put p (some (aw.cells (setFrom C o (aJ .u8 (MT.set (k - 2) (48+(v%100) /10)))) f false)):=⟨_,rfl⟩
 have MW:a_ env sC 5 (AV.ptr p (o+(k - 2))) (AV.int .u8 ((48+(v%100) /10:Nat):Int))=some HJ:=by rw[xz];exact aZ (by kernel_rfl) o! oP (show (k - 2)<MT.length by omega)
 have xA:jS sC HJ p (aw.cells (setFrom C o (aJ .u8 (MT.set (k - 2) (48+(v%100) /10)))) f false):=by rw[xz];exact bC rV oP
 have MX:=xA.1
 have WY:HJ.nx=sC.nx:=by rw[xz];rfl
 obtain ⟨RG,xB⟩:∃q_,q_=MT.set (k - 2) (48+(v%100) /10):=⟨_,rfl⟩
 have xC:=xA.2.1
 rw[←xB] at xC
 have RH:RG.length=n:=by rw[xB,List.length_set];exact MU
 have MY:Kept p h HJ:=rW.trans xA.2.2
 have UW:(decide (0<(((k:Nat):Int) - 2)))=false:=(dF o!)
 have ev:=pk (d) fP ((AV.slice p o n c op)::(AV.int .u64 ((u:Nat):Int))::ck 165) h .normal HJ (CN 3<|LL iI<|CN 4<|VV (cR 3 false true .i64 ((k:Nat):Int) 4)<|BB q1<|CC<|VV (cR 3 false true .i64 ((k:Nat):Int) 2)<|BB q2<|CC<|VV u3<|VV u4<|CN 2<|VV u5<|CN 3<|VV (ea 3 false true w6)<|CN 2<|VV (ea 3 false true w7)<|CC<|VV u8<|VV ti9<|CC<|VV Tq<|VV Tr<|SS MR<|VV MV<|SS MW<|CC<|VV (ea 3 false true w7)<|CN 2<|VV (cb 3 false true .i64 (((k:Nat):Int) - 2) 0)<|BB UW<|ZZ) (by kernel_rfl)
 have e:RG=dW u n:=by
  rw[xB,xy,Bl,hD,mi (k:=(k - 2)) (m:=k) (i:=(k - 1)) (j:=(k - 2)) o! o! o! o!,hk]
  simp only[dW,List.take_zero,Nat.sub_self,List.nil_append,List.cons_append,List.append_assoc]
  simp only[List.cons.injEq,and_true]
  (repeat' apply And.intro)<;>omega
 rw[e] at xC
 exact ik rfl (aE Tryz.func108 oL (by kernel_rfl) (.inl rfl) ev (by kernel_rfl)) ⟨MX,xC,MY⟩ bK zB o!
theorem Qf (x:FB d h l u p o n c op C f k v hl yl W D) (hk:k=1):FG d h u p o n c op C f:=by
 obtain ⟨hn,yg,hf,zB,bK,iI,Oe,hW,Bl,hv,nQ,m8,yG,iO,hD,Bk,Of,wG⟩:=x
 have It:v<10:=by have:=hv;rw[hk] at this;exact this
 have rU:Kept p h hl:=m8
 have q1:(decide (4≤((k:Nat):Int)))=false:=(dF o!)
 have q2:(decide (2≤((k:Nat):Int)))=false:=(dF o!)
 have q3:(decide (0<((k:Nat):Int)))=true:=(dT o!)
 have u4:aN env .add 231 true false (some (AV.int .u32 48)) (some (AV.int .u32 (IntKind.u32.wrap ((v:Nat):Int))))=some (AV.int .u32 ((48+v:Nat):Int)):=by rw[wG];exact cd (k:= .u32) (a:=48) (b:=v) (wrap_u32 o!)
 have UX:bP env (some (.slice 5)) (some (AV.slice p o n c op)) (some (AV.int .i64 0))=some (AV.ptr p (o+0)):=bJ (by kernel_rfl) (show 0<n by omega) o!
 obtain ⟨h6,Ts⟩:∃hh:ag,hh=hl.put p (some (aw.cells (setFrom C o (aJ .u8 (D.set 0 (48+v)))) f false)):=⟨_,rfl⟩
 have aaC:a_ env hl 5 (AV.ptr p (o+0)) (AV.int .u8 (IntKind.u8.wrap ((48+v:Nat):Int)))=some h6:=by rw[Ts,(wrap_u8 (n:=48+v) o!)];exact aZ (by kernel_rfl) o! iO (show 0<D.length by omega)
 have F4:jS hl h6 p (aw.cells (setFrom C o (aJ .u8 (D.set 0 (48+v)))) f false):=by rw[Ts];exact bC nQ iO
 have mr:=F4.1
 have F5:h6.nx=hl.nx:=by rw[Ts];rfl
 obtain ⟨D7,Tt⟩:∃q_,q_=D.set 0 (48+v):=⟨_,rfl⟩
 have qL:=F4.2.1
 rw[←Tt] at qL
 have aci:D7.length=n:=by rw[Tt,List.length_set];exact Bk
 have mu:Kept p h h6:=rU.trans F4.2.2
 have ev:=pk (d) fP ((AV.slice p o n c op)::(AV.int .u64 ((u:Nat):Int))::ck 165) h .normal h6 (CN 3<|LL iI<|CN 4<|VV (cR 3 false true .i64 ((k:Nat):Int) 4)<|BB q1<|CC<|VV (cR 3 false true .i64 ((k:Nat):Int) 2)<|BB q2<|CC<|VV (cb 3 false true .i64 ((k:Nat):Int) 0)<|BB q3<|CN 2<|VV u4<|CC<|VV UX<|SS aaC<|ZZ) (by kernel_rfl)
 have e:D7=dW u n:=by
  rw[Tt,Bl,hD,P7 (m:=k) o! o!,hk]
  simp only[dW,List.take_zero,Nat.sub_self,List.nil_append,List.cons_append,List.append_assoc]
  simp only[List.cons.injEq,and_true]
  (repeat' apply And.intro)<;>omega
 rw[e] at qL
 exact ik rfl (aE Tryz.func108 oL (by kernel_rfl) (.inl rfl) ev (by kernel_rfl)) ⟨mr,qL,mu⟩ bK zB o!
theorem Qg (x:FB d h l u p o n c op C f k v hl yl W D) (hk:k=0):FG d h u p o n c op C f:=by
 obtain ⟨hn,yg,hf,zB,bK,iI,Oe,hW,Bl,hv,nQ,m8,yG,iO,hD,Bk,Of,wG⟩:=x
 have It:v<1:=by have:=hv;rw[hk] at this;exact this
 have rU:Kept p h hl:=m8
 have q1:(decide (4≤((k:Nat):Int)))=false:=(dF o!)
 have q2:(decide (2≤((k:Nat):Int)))=false:=(dF o!)
 have q3:(decide (0<((k:Nat):Int)))=false:=(dF o!)
 have ev:=pk (d) fP ((AV.slice p o n c op)::(AV.int .u64 ((u:Nat):Int))::ck 165) h .normal hl (CN 3<|LL iI<|CN 4<|VV (cR 3 false true .i64 ((k:Nat):Int) 4)<|BB q1<|CC<|VV (cR 3 false true .i64 ((k:Nat):Int) 2)<|BB q2<|CC<|VV (cb 3 false true .i64 ((k:Nat):Int) 0)<|BB q3<|ZZ) (by kernel_rfl)
 have e:D=dW u n:=by
  rw[Bl,hD,hk]
  simp only[dW,List.take_zero,Nat.sub_self,List.nil_append,List.cons_append,List.append_assoc]
 rw[e] at iO
 exact ik rfl (aE Tryz.func108 oL (by kernel_rfl) (.inl rfl) ev (by kernel_rfl)) ⟨nQ,iO,m8⟩ bK zB o!
end
theorem MZ {d:Nat} {h:ag} {l:List Nat} {u p o n c:Nat} {op:Bool} {C:List AV} {f:TypeId} (hn:l.length=n) (yg:n<2^60) (hf:o+n≤C.length) (hC:Holds .u8 C o l) (zB:h.get p=some (.cells C f false)) (hu:u<10^n) (FX:u<18446744073709551616) (bK:Tidy h):
 ∃hk,cC (d+1) (.fn 108) [.slice p o n c op,.int .u64 (u:Nat)] h= .ret (.tuple []) hk∧jS h hk p (.cells (setFrom C o (aJ .u8 (dW u n))) f false)∧hk.nx=h.nx:=by
 have hg:h.get p=some (.cells (setFrom C o (aJ .u8 (l.take n++[]))) f false):=by
  rw[List.append_nil,List.take_of_length_le o!,S' hC];exact zB
 obtain ⟨⟨k,v⟩,hl,⟨yl,iI⟩,Oe,W,hW,Bl,hv,nQ,m8,yG,iO⟩:=IX (d:=d) (hs:=h) (ds:=[]) (rc:= .no) (c:=c) (op:=op) (U:=u) hn yg hf n n u h [] o! (by simp) (by simp) hu FX bK (Kept.refl _ _) rfl hg (fun k=>(((AV.slice p o n c op)::(AV.int .u64 ((u:Nat):Int))::AV.undef::AV.undef::(AV.int .i64 ((n:Nat):Int))::AV.undef::AV.undef::AV.undef::AV.undef::AV.undef::AV.undef::AV.undef::AV.undef::AV.undef::AV.undef::AV.undef::AV.undef::(AV.slice p o n c op)::(AV.int .i64 ((n:Nat):Int))::ck 148):List AV).getD k AV.undef)
 simp only at Oe hW Bl hv iI iO
 obtain ⟨D,hD⟩:∃D,D=l.take k++W:=⟨_,rfl⟩
 rw[←hD] at iO
 have Bk:D.length=n:=by rw[hD];simp;omega
 have Of:v<10000000:=Nat.lt_of_lt_of_le hv (Nat.pow_le_pow_right o! (show k≤7 by omega))
 have wG:IntKind.u32.wrap ((v:Nat):Int)=((v:Nat):Int):=wrap_u32 o!
 have fb:FB d h l u p o n c op C f k v hl yl W D:=⟨hn,yg,hf,zB,bK,iI,by omega,by omega,Bl,hv,nQ,m8,yG,iO,hD,Bk,Of,wG⟩
 have:k=7∨k=6∨k=5∨k=4∨k=3∨k=2∨k=1∨k=0:=by omega
 rcases this with q | q | q | q | q | q | q | q
 · exact P' fb q
 · exact Qa fb q
 · exact Qb fb q
 · exact Qc fb q
 · exact Qd fb q
 · exact Qe fb q
 · exact Qf fb q
 · exact Qg fb q
end
end Go.Proofs.aA
