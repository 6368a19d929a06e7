import Derived.Test.YthapgpflpcffnaaGreatDoorA8
import Derived.Test.YthapgpflpcffnaaGreatDoorW0
import Derived.Test.YthapgpflpcffnaaGreatDoorEnv
import Derived.Test.YthapgpflpcffnaaGreatDoorW1
namespace Go.Proofs.aP
open Go.Proofs Ab
noncomputable section
set_option maxRecDepth 100000
set_option maxHeartbeats 4000000
set_option linter.unusedVariables false
set_option linter.unusedSimpArgs false
def ef:Code:=(Tryz.f134.body).getD .skip
theorem mq:Tryz.f134.body=some ef:=by kernel_rfl
def mr:Code:=(dj ef).getD 0 .skip
def DW:List UInt8:=[48,48,48,49,48,50,48,51,48,52,48,53,48,54,48,55,48,56,48,57,49,48,49,49,49,50,49,51,49,52,49,53,49,54,49,55,49,56,49,57,50,48,50,49,50,50,50,51,50,52,50,53,50,54,50,55,50,56,50,57,51,48,51,49,51,50,51,51,51,52,51,53,51,54,51,55,51,56,51,57,52,48,52,49,52,50,52,51,52,52,52,53,52,54,52,55,52,56,52,57,53,48,53,49,53,50,53,51,53,52,53,53,53,54,53,55,53,56,53,57,54,48,54,49,54,50,54,51,54,52,54,53,54,54,54,55,54,56,54,57,55,48,55,49,55,50,55,51,55,52,55,53,55,54,55,55,55,56,55,57,56,48,56,49,56,50,56,51,56,52,56,53,56,54,56,55,56,56,56,57,57,48,57,49,57,50,57,51,57,52,57,53,57,54,57,55,57,56,57,57]
theorem wrap_u32 {n:Nat} (h:n<4294967296):IntKind.u32.wrap (n:Int)=(n:Int):=by
 show (if (false&&decide ((n:Int)%2^32≥2^31))=true then (n:Int)%2^32 - 2^32 else (n:Int)%2^32)=_
 rw[if_neg (by simp)]
 omega
theorem wrap_u8 {n:Nat} (h:n<256):IntKind.u8.wrap (n:Int)=(n:Int):=by
 show (if (false&&decide ((n:Int)%2^8≥2^7))=true then (n:Int)%2^8 - 2^8 else (n:Int)%2^8)=_
 rw[if_neg (by simp)]
 omega
theorem bJ {E:Env} {t:TypeId} {c d:Bool} {k:IntKind} {a b:Nat} (h:k.wrap ((a+b:Nat):Int)=((a+b:Nat):Int)):aJ E .add t c d (some (.int k (a:Int))) (some (.int k (b:Int)))=some (.int k ((a+b:Nat):Int)):=nU (by rw[←h];congr 1)
theorem b_ {E:Env} {t:TypeId} {c d:Bool} {k:IntKind} {a b:Nat} (h:k.wrap ((a*b:Nat):Int)=((a*b:Nat):Int)):aJ E .mul t c d (some (.int k (a:Int))) (some (.int k (b:Int)))=some (.int k ((a*b:Nat):Int)):=tx (by rw[←h];congr 1)
theorem cg {E:Env} {t:TypeId} {c d:Bool} {k:IntKind} {a b:Nat} (hb:b≠0) (h:k.wrap ((a/b:Nat):Int)=((a/b:Nat):Int)):aJ E .quo t c d (some (.int k (a:Int))) (some (.int k (b:Int)))=some (.int k ((a/b:Nat):Int)):=tz o! (by rw[←Int.ofNat_tdiv];exact h)
theorem ch {E:Env} {t:TypeId} {c d:Bool} {k:IntKind} {a b:Nat} (hb:b≠0):aJ E .rem t c d (some (.int k (a:Int))) (some (.int k (b:Int)))=some (.int k ((a%b:Nat):Int)):=aH o! (by rw[←Int.ofNat_tmod])
theorem AO:((List.range 100).all fun A=>decide (DW[A*2]? =some (UInt8.ofNat (48+A/10)))&&decide (DW[A*2+1]? =some (UInt8.ofNat (48+A%10))))=true:=by decide+kernel
theorem ff {A:Nat} (hA:A<100):gX env (some .string) (some (.str DW)) (some (.int .u32 ((A*2:Nat):Int)))=some (.int .u8 ((48+A/10:Nat):Int)):=by
 have h:=List.all_eq_true.1 AO A (List.mem_range.2 hA)
 simp only[Bool.and_eq_true,decide_eq_true_eq] at h
 simp only[gX]
 rw[if_pos o!,Int.toNat_natCast,h.1]
 simp only[Option.map_some,UInt8.toNat_ofNat']
 rw[Nat.mod_eq_of_lt o!]
theorem fh {A:Nat} (hA:A<100):gX env (some .string) (some (.str DW)) (some (.int .u32 ((A*2+1:Nat):Int)))=some (.int .u8 ((48+A%10:Nat):Int)):=by
 have h:=List.all_eq_true.1 AO A (List.mem_range.2 hA)
 simp only[Bool.and_eq_true,decide_eq_true_eq] at h
 simp only[gX]
 rw[if_pos o!,Int.toNat_natCast,h.2]
 simp only[Option.map_some,UInt8.toNat_ofNat']
 rw[Nat.mod_eq_of_lt o!]
def dW:Nat→Nat→List Nat
 | _,0=> []
 | u,n+1=>dW (u/10) n++[48+u%10]
theorem jM:∀(n u:Nat),(dW u n).length=n
 | 0,_=>rfl
 | n+1,u=>by simp [dW,jM n]
def d8 (u:Nat):List Nat:=[48+u%100000000/10000/100/10,48+u%100000000/10000/100%10,48+u%100000000/10000%100/10,48+u%100000000/10000%100%10,48+u%100000000%10000/100/10,48+u%100000000%10000/100%10,48+u%100000000%10000%100/10,48+u%100000000%10000%100%10]
theorem YX (u m:Nat):dW u (m+8)=dW (u/100000000) m++d8 u:=by
 have e:u/10/10/10/10/10/10/10/10=u/100000000:=by omega
 simp only[dW,d8,List.append_assoc,List.cons_append,List.nil_append]
 rw[e]
 congr 1
 simp only[List.cons.injEq,and_true]
 (repeat' apply And.intro)<;>omega
theorem jY {l W:List Nat} {k m i j a b:Nat} (hm:m=k+2) (hi:i=k+1) (hj:k=j) (hl:m≤l.length):((l.take m++W).set i a).set j b=l.take k++b::a::W:=by
 subst hm hi hj
 rw[wo o!,wo o!]
 have h1:(l.take k).length=k:=by simp;omega
 apply List.ext_getElem?
 intro q
 simp only[List.append_assoc,List.cons_append,List.nil_append]
 rw[List.set_append_right _ _ o!,List.set_append_right _ _ o!,h1,Nat.sub_self,show k+1 - k=1 by omega]
 rfl
theorem LK {l W:List Nat} {m a:Nat} (hm:m=1) (hl:m≤l.length):(l.take m++W).set 0 a=a::W:=by
 subst hm
 cases l with
 | nil=>simp at hl
 | cons x l=>rfl
theorem UP {l W:List Nat} {k a b c d e f g x:Nat} (hk:8≤k) (hl:k≤l.length):((((((((l.take k++W).set (k - 1) a).set (k - 2) b).set (k - 3) c).set (k - 4) d).set (k - 5) e).set (k - 6) f).set (k - 7) g).set (k - 8) x=l.take (k - 8)++(x::g::f::e::d::c::b::a::W):=by
 rw[jY (k:=k - 2) o! o! rfl hl,jY (k:=k - 4) o! o! rfl o!,jY (k:=k - 6) o! o! rfl o!,jY (k:=k - 8) o! o! rfl o!]
theorem E5 {d:Nat} {hs:ah} {ds:List iI} {rc:RC} {l:List Nat} {p o n c:Nat} {op:Bool} {C:List AV} {f:TypeId} {U:Nat} (hn:l.length=n) (va:n<2^60) (hf:o+n≤C.length) (m:Nat):
 ∀(k u:Nat) (h:ah) (W:List Nat),k<8*m+8→W.length+k=n→dW U n=dW u k++W→u<10^k→u<18446744073709551616→Tidy h→Kept p hs h→h.nx=hs.nx→h.get p=some (.cells (setFrom C o (aO .u8 (l.take k++W))) f false)→∀x:Nat→AV,
  ∃(a:Nat×Nat) (h':ah),(∃y:Nat→AV,Ev env (dJ d) (.loop mr) ⟨((AV.slice p o n c op)::(AV.int .u64 ((u:Nat):Int))::(x 2)::(x 3)::(AV.int .i64 ((k:Nat):Int))::rx x 5 162 []),h,ds,rc⟩ (.exit 0) ⟨((AV.slice p o n c op)::(AV.int .u64 ((a.2:Nat):Int))::(y 2)::(y 3)::(AV.int .i64 ((a.1:Nat):Int))::rx y 5 162 []),h',ds,rc⟩)∧a.1<8∧∃W,W.length+a.1=n∧dW U n=dW a.2 a.1++W∧a.2<10^a.1∧Tidy h'∧Kept p hs h'∧h'.nx=hs.nx∧h'.get p=some (.cells (setFrom C o (aO .u8 (l.take a.1++W))) f false):=by
 induction m with
 | zero=>
   intro k u h W hk hW hd hu Cp dL kp hx hg x
   have q1:(decide (8≤((k:Nat):Int)))=false:=(dF o!)
   have ev:=UA (d) mr ((AV.slice p o n c op)::(AV.int .u64 ((u:Nat):Int))::(x 2)::(x 3)::(AV.int .i64 ((k:Nat):Int))::rx x 5 162 []) h ds rc (.exit 0) h (CC<|VV (cq 3 false true .i64 ((k:Nat):Int) 8)<|BB q1<|ZZ) (by kernel_rfl)
   exact ⟨(k,u),h,kI (Ev.out ev) (by kernel_rfl),by omega,W,hW,hd,hu,dL,kp,hx,hg⟩
 | succ m ih=>
   intro k u h W hk hW hd hu Cp dL kp hx hg x
   by_cases q:k<8
   · have q1:(decide (8≤((k:Nat):Int)))=false:=(dF o!)
     have ev:=UA (d) mr ((AV.slice p o n c op)::(AV.int .u64 ((u:Nat):Int))::(x 2)::(x 3)::(AV.int .i64 ((k:Nat):Int))::rx x 5 162 []) h ds rc (.exit 0) h (CC<|VV (cq 3 false true .i64 ((k:Nat):Int) 8)<|BB q1<|ZZ) (by kernel_rfl)
     exact ⟨(k,u),h,kI (Ev.out ev) (by kernel_rfl),by omega,W,hW,hd,hu,dL,kp,hx,hg⟩
   · obtain ⟨D,hD⟩:∃D,D=l.take k++W:=⟨_,rfl⟩
     rw[←hD] at hg
     have yD:D.length=n:=by rw[hD];simp;omega
     have ex:IntKind.u32.wrap ((u%100000000:Nat):Int)=((u%100000000:Nat):Int):=wrap_u32 o!
     have q1:(decide (8≤((k:Nat):Int)))=true:=(dT o!)
     have u2:aJ env .rem 54 false true (some (AV.int .u64 ((u:Nat):Int))) (some (AV.int .u64 100000000))=some (AV.int .u64 ((u%100000000:Nat):Int)):=AD (a:=u) (b:=100000000) o!
     have u3:aJ env .quo 54 false true (some (AV.int .u64 ((u:Nat):Int))) (some (AV.int .u64 100000000))=some (AV.int .u64 ((u/100000000:Nat):Int)):=AB (a:=u) (b:=100000000) o! o!
     have u4:aJ env .quo 237 false true (some (AV.int .u32 (IntKind.u32.wrap ((u%100000000:Nat):Int)))) (some (AV.int .u32 10000))=some (AV.int .u32 (((u%100000000) /10000:Nat):Int)):=by rw[ex];exact cg (k:= .u32) (a:=(u%100000000)) (b:=10000) o! (wrap_u32 o!)
     have u5:aJ env .rem 237 false true (some (AV.int .u32 (IntKind.u32.wrap ((u%100000000:Nat):Int)))) (some (AV.int .u32 10000))=some (AV.int .u32 (((u%100000000)%10000:Nat):Int)):=by rw[ex];exact ch (k:= .u32) (a:=(u%100000000)) (b:=10000) o!
     have u6:aJ env .quo 237 false true (some (AV.int .u32 (((u%100000000)%10000:Nat):Int))) (some (AV.int .u32 100))=some (AV.int .u32 ((((u%100000000)%10000) /100:Nat):Int)):=cg (k:= .u32) (a:=((u%100000000)%10000)) (b:=100) o! (wrap_u32 o!)
     have u7:aJ env .mul 237 false true (some (AV.int .u32 ((((u%100000000)%10000) /100:Nat):Int))) (some (AV.int .u32 2))=some (AV.int .u32 (((((u%100000000)%10000) /100)*2:Nat):Int)):=b_ (k:= .u32) (a:=(((u%100000000)%10000) /100)) (b:=2) (wrap_u32 o!)
     have u8:aJ env .rem 237 false true (some (AV.int .u32 (((u%100000000)%10000:Nat):Int))) (some (AV.int .u32 100))=some (AV.int .u32 ((((u%100000000)%10000)%100:Nat):Int)):=ch (k:= .u32) (a:=((u%100000000)%10000)) (b:=100) o!
     have u9:aJ env .mul 237 false true (some (AV.int .u32 ((((u%100000000)%10000)%100:Nat):Int))) (some (AV.int .u32 2))=some (AV.int .u32 (((((u%100000000)%10000)%100)*2:Nat):Int)):=b_ (k:= .u32) (a:=(((u%100000000)%10000)%100)) (b:=2) (wrap_u32 o!)
     have LM:aJ env .quo 237 false true (some (AV.int .u32 (((u%100000000) /10000:Nat):Int))) (some (AV.int .u32 100))=some (AV.int .u32 ((((u%100000000) /10000) /100:Nat):Int)):=cg (k:= .u32) (a:=((u%100000000) /10000)) (b:=100) o! (wrap_u32 o!)
     have YY:aJ env .mul 237 false true (some (AV.int .u32 ((((u%100000000) /10000) /100:Nat):Int))) (some (AV.int .u32 2))=some (AV.int .u32 (((((u%100000000) /10000) /100)*2:Nat):Int)):=b_ (k:= .u32) (a:=(((u%100000000) /10000) /100)) (b:=2) (wrap_u32 o!)
     have UQ:aJ env .rem 237 false true (some (AV.int .u32 (((u%100000000) /10000:Nat):Int))) (some (AV.int .u32 100))=some (AV.int .u32 ((((u%100000000) /10000)%100:Nat):Int)):=ch (k:= .u32) (a:=((u%100000000) /10000)) (b:=100) o!
     have UR:aJ env .mul 237 false true (some (AV.int .u32 ((((u%100000000) /10000)%100:Nat):Int))) (some (AV.int .u32 2))=some (AV.int .u32 (((((u%100000000) /10000)%100)*2:Nat):Int)):=b_ (k:= .u32) (a:=(((u%100000000) /10000)%100)) (b:=2) (wrap_u32 o!)
     have YZ:IntKind.i64.wrap (((k:Nat):Int) - 1)=((k:Nat):Int) - 1:=(wrap_i64 o! o!)
     have Y0:IntKind.i64.wrap (((k:Nat):Int) - 2)=((k:Nat):Int) - 2:=(wrap_i64 o! o!)
     have u16:aJ env .add 237 false true (some (AV.int .u32 (((((u%100000000)%10000)%100)*2:Nat):Int))) (some (AV.int .u32 1))=some (AV.int .u32 ((((((u%100000000)%10000)%100)*2)+1:Nat):Int)):=bJ (k:= .u32) (a:=((((u%100000000)%10000)%100)*2)) (b:=1) (wrap_u32 o!)
     have US:=fh (A:=(((u%100000000)%10000)%100)) o!
     have UT:=ff (A:=(((u%100000000)%10000)%100)) o!
     have Ox:bD env (some (.slice 5)) (some (AV.slice p o n c op)) (some (AV.int .i64 (((k:Nat):Int) - 1)))=some (AV.ptr p (o+(k - 1))):=br (by kernel_rfl) (show (k - 1)<n by omega) o!
     obtain ⟨DX,tK⟩:∃hh:ah,hh=h.put p (some (aF.cells (setFrom C o (aO .u8 (D.set (k - 1) (48+(((u%100000000)%10000)%100)%10)))) f false)):=⟨_,rfl⟩
     have Io:aQ env h 5 (AV.ptr p (o+(k - 1))) (AV.int .u8 ((48+(((u%100000000)%10000)%100)%10:Nat):Int))=some DX:=by rw[tK];exact aU (by kernel_rfl) o! hg (show (k - 1)<D.length by omega)
     have tL:iE h DX p (aF.cells (setFrom C o (aO .u8 (D.set (k - 1) (48+(((u%100000000)%10000)%100)%10)))) f false):=by rw[tK];exact bj dL hg
     have Ip:=tL.1
     have Re:DX.nx=h.nx:=by rw[tK];rfl
     obtain ⟨M1,tM⟩:∃q_,q_=D.set (k - 1) (48+(((u%100000000)%10000)%100)%10):=⟨_,rfl⟩
     have tN:=tL.2.1
     rw[←tM] at tN
     have M3:M1.length=n:=by rw[tM,List.length_set];exact yD
     have Iq:Kept p h DX:=tL.2.2
     have UU:bD env (some (.slice 5)) (some (AV.slice p o n c op)) (some (AV.int .i64 (((k:Nat):Int) - 2)))=some (AV.ptr p (o+(k - 2))):=br (by kernel_rfl) (show (k - 2)<n by omega) o!
     obtain ⟨j4,Ir⟩:∃hh:ah,hh=DX.put p (some (aF.cells (setFrom C o (aO .u8 (M1.set (k - 2) (48+(((u%100000000)%10000)%100) /10)))) f false)):=⟨_,rfl⟩
     have Rf:aQ env DX 5 (AV.ptr p (o+(k - 2))) (AV.int .u8 ((48+(((u%100000000)%10000)%100) /10:Nat):Int))=some j4:=by rw[Ir];exact aU (by kernel_rfl) o! tN (show (k - 2)<M1.length by omega)
     have Is:iE DX j4 p (aF.cells (setFrom C o (aO .u8 (M1.set (k - 2) (48+(((u%100000000)%10000)%100) /10)))) f false):=by rw[Ir];exact bj Ip tN
     have il:=Is.1
     have WZ:j4.nx=DX.nx:=by rw[Ir];rfl
     obtain ⟨Rg,It⟩:∃q_,q_=M1.set (k - 2) (48+(((u%100000000)%10000)%100) /10):=⟨_,rfl⟩
     have Iu:=Is.2.1
     rw[←It] at Iu
     have Ri:Rg.length=n:=by rw[It,List.length_set];exact M3
     have j5:Kept p h j4:=Iq.trans Is.2.2
     have Y1:IntKind.i64.wrap (((k:Nat):Int) - 3)=((k:Nat):Int) - 3:=(wrap_i64 o! o!)
     have Y2:IntKind.i64.wrap (((k:Nat):Int) - 4)=((k:Nat):Int) - 4:=(wrap_i64 o! o!)
     have Y3:aJ env .add 237 false true (some (AV.int .u32 (((((u%100000000)%10000) /100)*2:Nat):Int))) (some (AV.int .u32 1))=some (AV.int .u32 ((((((u%100000000)%10000) /100)*2)+1:Nat):Int)):=bJ (k:= .u32) (a:=((((u%100000000)%10000) /100)*2)) (b:=1) (wrap_u32 o!)
     have UW:=fh (A:=(((u%100000000)%10000) /100)) o!
     have UX:=ff (A:=(((u%100000000)%10000) /100)) o!
     have UY:bD env (some (.slice 5)) (some (AV.slice p o n c op)) (some (AV.int .i64 (((k:Nat):Int) - 3)))=some (AV.ptr p (o+(k - 3))):=br (by kernel_rfl) (show (k - 3)<n by omega) o!
     obtain ⟨M4,Iv⟩:∃hh:ah,hh=j4.put p (some (aF.cells (setFrom C o (aO .u8 (Rg.set (k - 3) (48+(((u%100000000)%10000) /100)%10)))) f false)):=⟨_,rfl⟩
     have Rj:aQ env j4 5 (AV.ptr p (o+(k - 3))) (AV.int .u8 ((48+(((u%100000000)%10000) /100)%10:Nat):Int))=some M4:=by rw[Iv];exact aU (by kernel_rfl) o! Iu (show (k - 3)<Rg.length by omega)
     have Iw:iE j4 M4 p (aF.cells (setFrom C o (aO .u8 (Rg.set (k - 3) (48+(((u%100000000)%10000) /100)%10)))) f false):=by rw[Iv];exact bj il Iu
     have Rl:=Iw.1
     have W0:M4.nx=j4.nx:=by rw[Iv];rfl
     obtain ⟨Rm,Ix⟩:∃q_,q_=Rg.set (k - 3) (48+(((u%100000000)%10000) /100)%10):=⟨_,rfl⟩
     have Iy:=Iw.2.1
     rw[←Ix] at Iy
     have Rn:Rm.length=n:=by rw[Ix,List.length_set];exact Ri
     have Ro:Kept p h M4:=j5.trans Iw.2.2
     have Oy:bD env (some (.slice 5)) (some (AV.slice p o n c op)) (some (AV.int .i64 (((k:Nat):Int) - 4)))=some (AV.ptr p (o+(k - 4))):=br (by kernel_rfl) (show (k - 4)<n by omega) o!
     obtain ⟨da,tO⟩:∃hh:ah,hh=M4.put p (some (aF.cells (setFrom C o (aO .u8 (Rm.set (k - 4) (48+(((u%100000000)%10000) /100) /10)))) f false)):=⟨_,rfl⟩
     have Iz:aQ env M4 5 (AV.ptr p (o+(k - 4))) (AV.int .u8 ((48+(((u%100000000)%10000) /100) /10:Nat):Int))=some da:=by rw[tO];exact aU (by kernel_rfl) o! Iy (show (k - 4)<Rm.length by omega)
     have tP:iE M4 da p (aF.cells (setFrom C o (aO .u8 (Rm.set (k - 4) (48+(((u%100000000)%10000) /100) /10)))) f false):=by rw[tO];exact bj Rl Iy
     have mu:=tP.1
     have Rp:da.nx=M4.nx:=by rw[tO];rfl
     obtain ⟨M5,tQ⟩:∃q_,q_=Rm.set (k - 4) (48+(((u%100000000)%10000) /100) /10):=⟨_,rfl⟩
     have tR:=tP.2.1
     rw[←tQ] at tR
     have M6:M5.length=n:=by rw[tQ,List.length_set];exact Rn
     have AP:Kept p h da:=Ro.trans tP.2.2
     have Y4:IntKind.i64.wrap (((k:Nat):Int) - 5)=((k:Nat):Int) - 5:=(wrap_i64 o! o!)
     have Y5:IntKind.i64.wrap (((k:Nat):Int) - 6)=((k:Nat):Int) - 6:=(wrap_i64 o! o!)
     have Y6:aJ env .add 237 false true (some (AV.int .u32 (((((u%100000000) /10000)%100)*2:Nat):Int))) (some (AV.int .u32 1))=some (AV.int .u32 ((((((u%100000000) /10000)%100)*2)+1:Nat):Int)):=bJ (k:= .u32) (a:=((((u%100000000) /10000)%100)*2)) (b:=1) (wrap_u32 o!)
     have UZ:=fh (A:=(((u%100000000) /10000)%100)) o!
     have U0:=ff (A:=(((u%100000000) /10000)%100)) o!
     have U1:bD env (some (.slice 5)) (some (AV.slice p o n c op)) (some (AV.int .i64 (((k:Nat):Int) - 5)))=some (AV.ptr p (o+(k - 5))):=br (by kernel_rfl) (show (k - 5)<n by omega) o!
     obtain ⟨M7,IA⟩:∃hh:ah,hh=da.put p (some (aF.cells (setFrom C o (aO .u8 (M5.set (k - 5) (48+(((u%100000000) /10000)%100)%10)))) f false)):=⟨_,rfl⟩
     have Rq:aQ env da 5 (AV.ptr p (o+(k - 5))) (AV.int .u8 ((48+(((u%100000000) /10000)%100)%10:Nat):Int))=some M7:=by rw[IA];exact aU (by kernel_rfl) o! tR (show (k - 5)<M5.length by omega)
     have IB:iE da M7 p (aF.cells (setFrom C o (aO .u8 (M5.set (k - 5) (48+(((u%100000000) /10000)%100)%10)))) f false):=by rw[IA];exact bj mu tR
     have Rr:=IB.1
     have W1:M7.nx=da.nx:=by rw[IA];rfl
     obtain ⟨Rs,IC⟩:∃q_,q_=M5.set (k - 5) (48+(((u%100000000) /10000)%100)%10):=⟨_,rfl⟩
     have ID:=IB.2.1
     rw[←IC] at ID
     have Rt:Rs.length=n:=by rw[IC,List.length_set];exact M6
     have Ru:Kept p h M7:=AP.trans IB.2.2
     have U2:bD env (some (.slice 5)) (some (AV.slice p o n c op)) (some (AV.int .i64 (((k:Nat):Int) - 6)))=some (AV.ptr p (o+(k - 6))):=br (by kernel_rfl) (show (k - 6)<n by omega) o!
     obtain ⟨M8,IE⟩:∃hh:ah,hh=M7.put p (some (aF.cells (setFrom C o (aO .u8 (Rs.set (k - 6) (48+(((u%100000000) /10000)%100) /10)))) f false)):=⟨_,rfl⟩
     have Rv:aQ env M7 5 (AV.ptr p (o+(k - 6))) (AV.int .u8 ((48+(((u%100000000) /10000)%100) /10:Nat):Int))=some M8:=by rw[IE];exact aU (by kernel_rfl) o! ID (show (k - 6)<Rs.length by omega)
     have IF:iE M7 M8 p (aF.cells (setFrom C o (aO .u8 (Rs.set (k - 6) (48+(((u%100000000) /10000)%100) /10)))) f false):=by rw[IE];exact bj Rr ID
     have Rw:=IF.1
     have W2:M8.nx=M7.nx:=by rw[IE];rfl
     obtain ⟨Rx,IG⟩:∃q_,q_=Rs.set (k - 6) (48+(((u%100000000) /10000)%100) /10):=⟨_,rfl⟩
     have IH:=IF.2.1
     rw[←IG] at IH
     have Ry:Rx.length=n:=by rw[IG,List.length_set];exact Rt
     have Rz:Kept p h M8:=Ru.trans IF.2.2
     have Y7:IntKind.i64.wrap (((k:Nat):Int) - 7)=((k:Nat):Int) - 7:=(wrap_i64 o! o!)
     have W3:IntKind.i64.wrap (((k:Nat):Int) - 8)=((k:Nat):Int) - 8:=(wrap_i64 o! o!)
     have Y8:aJ env .add 237 false true (some (AV.int .u32 (((((u%100000000) /10000) /100)*2:Nat):Int))) (some (AV.int .u32 1))=some (AV.int .u32 ((((((u%100000000) /10000) /100)*2)+1:Nat):Int)):=bJ (k:= .u32) (a:=((((u%100000000) /10000) /100)*2)) (b:=1) (wrap_u32 o!)
     have U3:=fh (A:=(((u%100000000) /10000) /100)) o!
     have U4:=ff (A:=(((u%100000000) /10000) /100)) o!
     have U5:bD env (some (.slice 5)) (some (AV.slice p o n c op)) (some (AV.int .i64 (((k:Nat):Int) - 7)))=some (AV.ptr p (o+(k - 7))):=br (by kernel_rfl) (show (k - 7)<n by omega) o!
     obtain ⟨n6,II⟩:∃hh:ah,hh=M8.put p (some (aF.cells (setFrom C o (aO .u8 (Rx.set (k - 7) (48+(((u%100000000) /10000) /100)%10)))) f false)):=⟨_,rfl⟩
     have RA:aQ env M8 5 (AV.ptr p (o+(k - 7))) (AV.int .u8 ((48+(((u%100000000) /10000) /100)%10:Nat):Int))=some n6:=by rw[II];exact aU (by kernel_rfl) o! IH (show (k - 7)<Rx.length by omega)
     have IJ:iE M8 n6 p (aF.cells (setFrom C o (aO .u8 (Rx.set (k - 7) (48+(((u%100000000) /10000) /100)%10)))) f false):=by rw[II];exact bj Rw IH
     have DY:=IJ.1
     have RB:n6.nx=M8.nx:=by rw[II];rfl
     obtain ⟨RD,IK⟩:∃q_,q_=Rx.set (k - 7) (48+(((u%100000000) /10000) /100)%10):=⟨_,rfl⟩
     have AQ:=IJ.2.1
     rw[←IK] at AQ
     have RE:RD.length=n:=by rw[IK,List.length_set];exact Ry
     have DZ:Kept p h n6:=Rz.trans IJ.2.2
     have U6:bD env (some (.slice 5)) (some (AV.slice p o n c op)) (some (AV.int .i64 (((k:Nat):Int) - 8)))=some (AV.ptr p (o+(k - 8))):=br (by kernel_rfl) (show (k - 8)<n by omega) o!
     obtain ⟨PH,IL⟩:∃hh:ah,hh=n6.put p (some (aF.cells (setFrom C o (aO .u8 (RD.set (k - 8) (48+(((u%100000000) /10000) /100) /10)))) f false)):=⟨_,rfl⟩
     have RG:aQ env n6 5 (AV.ptr p (o+(k - 8))) (AV.int .u8 ((48+(((u%100000000) /10000) /100) /10:Nat):Int))=some PH:=by rw[IL];exact aU (by kernel_rfl) o! AQ (show (k - 8)<RD.length by omega)
     have IM:iE n6 PH p (aF.cells (setFrom C o (aO .u8 (RD.set (k - 8) (48+(((u%100000000) /10000) /100) /10)))) f false):=by rw[IL];exact bj DY AQ
     have RH:=IM.1
     have W5:PH.nx=n6.nx:=by rw[IL];rfl
     obtain ⟨W6,IN⟩:∃q_,q_=RD.set (k - 8) (48+(((u%100000000) /10000) /100) /10):=⟨_,rfl⟩
     have M9:=IM.2.1
     rw[←IN] at M9
     have W7:W6.length=n:=by rw[IN,List.length_set];exact RE
     have RI:Kept p h PH:=DZ.trans IM.2.2
     have ev:=UA (d) mr ((AV.slice p o n c op)::(AV.int .u64 ((u:Nat):Int))::(x 2)::(x 3)::(AV.int .i64 ((k:Nat):Int))::rx x 5 162 []) h ds rc .normal PH (CC<|VV (cq 3 false true .i64 ((k:Nat):Int) 8)<|BB q1<|CC<|VV u2<|CN 3<|VV u3<|CN 2<|VV u4<|CC<|VV u5<|CN 3<|VV u6<|VV u7<|CC<|VV u8<|VV u9<|CN 3<|VV LM<|VV YY<|CC<|VV UQ<|VV UR<|CN 4<|VV (cY 3 false true YZ)<|CN 2<|VV (cY 3 false true Y0)<|CC<|VV u16<|VV US<|CC<|VV UT<|VV Ox<|SS Io<|VV UU<|SS Rf<|CN 2<|VV (cY 3 false true Y1)<|CN 2<|VV (cY 3 false true Y2)<|CC<|VV Y3<|VV UW<|CC<|VV UX<|VV UY<|SS Rj<|VV Oy<|SS Iz<|CN 2<|VV (cY 3 false true Y4)<|CN 2<|VV (cY 3 false true Y5)<|CC<|VV Y6<|VV UZ<|CC<|VV U0<|VV U1<|SS Rq<|VV U2<|SS Rv<|CN 2<|VV (cY 3 false true Y7)<|CN 2<|VV (cY 3 false true W3)<|CC<|VV Y8<|VV U3<|CC<|VV U4<|VV U5<|SS RA<|VV U6<|SS RG<|CC<|VV (cY 3 false true W3)<|CC<|ZZ) (by kernel_rfl)
     have e8:dW u k=dW (u/100000000) (k - 8)++d8 u:=by
      have:=YX u (k - 8)
      rw[show k - 8+8=k by omega] at this
      exact this
     have eL:W6=l.take (k - 8)++(d8 u++W):=by
      rw[IN,IK,IG,IC,tQ,Ix,It,tM,hD,UP o! o!]
      rfl
     have g1:=M9
     rw[eL] at g1
     have Y9:u/100000000<10^(k - 8):=by
      rw[Nat.div_lt_iff_lt_mul o!,show (100000000:Nat)=10^8 by rfl,←Nat.pow_add,show k - 8+8=k by omega]
      exact hu
     refine yC (tin:=fun x=>((AV.slice p o n c op)::(AV.int .u64 ((u/100000000:Nat):Int))::(x 2)::(x 3)::(AV.int .i64 ((k - 8:Nat):Int))::rx x 5 162 [])) ev (by rw[show ((k:Nat):Int) - 8=((k - 8:Nat):Int) by omega];kernel_rfl) fun x=>ih (k - 8) (u/100000000) PH _ o! ?_ ?_ Y9 o! RH (kp.trans RI) o! g1 x
     · rw[List.length_append,show (d8 u).length=8 from rfl];omega
     · rw[hd,e8,List.append_assoc]
section
variable {d k v:Nat} {h hl:ah} {l W D:List Nat} {u p o n c:Nat} {op:Bool} {C:List AV} {f:TypeId} {yl:Nat→AV}
structure FB (d:Nat) (h:ah) (l:List Nat) (u p o n c:Nat) (op:Bool) (C:List AV) (f:TypeId) (k v:Nat) (hl:ah) (yl:Nat→AV) (W D:List Nat):Prop where
 hn:l.length=n
 va:n<2^60
 hf:o+n≤C.length
 wq:h.get p=some (.cells C f false)
 dL:Tidy h
 gd:Ev env (dJ d) (.loop mr) ⟨((AV.slice p o n c op)::(AV.int .u64 ((u:Nat):Int))::AV.undef::AV.undef::(AV.int .i64 ((n:Nat):Int))::AV.undef::AV.undef::AV.undef::AV.undef::AV.undef::AV.undef::AV.undef::AV.undef::AV.undef::AV.undef::AV.undef::AV.undef::(AV.slice p o n c op)::(AV.int .i64 ((n:Nat):Int))::dE 148),h,[],.no⟩ (.exit 0) ⟨((AV.slice p o n c op)::(AV.int .u64 ((v:Nat):Int))::(yl 2)::(yl 3)::(AV.int .i64 ((k:Nat):Int))::rx yl 5 162 []),hl,[],.no⟩
 J3:k<8
 hW:W.length+k=n
 yE:dW u n=dW v k++W
 hv:v<10^k
 lB:Tidy hl
 kR:Kept p h hl
 vv:hl.nx=h.nx
 gv:hl.get p=some (.cells (setFrom C o (aO .u8 D)) f false)
 hD:D=l.take k++W
 yD:D.length=n
 J4:v<10000000
 tS:IntKind.u32.wrap ((v:Nat):Int)=((v:Nat):Int)
def FG (d:Nat) (h:ah) (u p o n c:Nat) (op:Bool) (C:List AV) (f:TypeId):Prop:=∃hk,dJ (d+1) (.fn 134) [.slice p o n c op,.int .u64 (u:Nat)] h= .ret (.tuple []) hk∧iE h hk p (.cells (setFrom C o (aO .u8 (dW u n))) f false)∧hk.nx=h.nx
theorem LN (x:FB d h l u p o n c op C f k v hl yl W D) (hk:k=7):FG d h u p o n c op C f:=by
 obtain ⟨hn,va,hf,wq,dL,gd,J3,hW,yE,hv,lB,kR,vv,gv,hD,yD,J4,tS⟩:=x
 have Ey:v<10000000:=by have:=hv;rw[hk] at this;exact this
 have pg:Kept p h hl:=kR
 have q1:(decide (4≤((k:Nat):Int)))=true:=(dT o!)
 have u2:aJ env .rem 237 false true (some (AV.int .u32 (IntKind.u32.wrap ((v:Nat):Int)))) (some (AV.int .u32 10000))=some (AV.int .u32 ((v%10000:Nat):Int)):=by rw[tS];exact ch (k:= .u32) (a:=v) (b:=10000) o!
 have u3:aJ env .quo 237 false true (some (AV.int .u32 (IntKind.u32.wrap ((v:Nat):Int)))) (some (AV.int .u32 10000))=some (AV.int .u32 ((v/10000:Nat):Int)):=by rw[tS];exact cg (k:= .u32) (a:=v) (b:=10000) o! (wrap_u32 o!)
 have u4:aJ env .quo 237 false true (some (AV.int .u32 ((v%10000:Nat):Int))) (some (AV.int .u32 100))=some (AV.int .u32 (((v%10000) /100:Nat):Int)):=cg (k:= .u32) (a:=(v%10000)) (b:=100) o! (wrap_u32 o!)
 have u5:aJ env .mul 237 false true (some (AV.int .u32 (((v%10000) /100:Nat):Int))) (some (AV.int .u32 2))=some (AV.int .u32 ((((v%10000) /100)*2:Nat):Int)):=b_ (k:= .u32) (a:=((v%10000) /100)) (b:=2) (wrap_u32 o!)
 have u6:aJ env .rem 237 false true (some (AV.int .u32 ((v%10000:Nat):Int))) (some (AV.int .u32 100))=some (AV.int .u32 (((v%10000)%100:Nat):Int)):=ch (k:= .u32) (a:=(v%10000)) (b:=100) o!
 have u7:aJ env .mul 237 false true (some (AV.int .u32 (((v%10000)%100:Nat):Int))) (some (AV.int .u32 2))=some (AV.int .u32 ((((v%10000)%100)*2:Nat):Int)):=b_ (k:= .u32) (a:=((v%10000)%100)) (b:=2) (wrap_u32 o!)
 have w8:IntKind.i64.wrap (((k:Nat):Int) - 1)=((k:Nat):Int) - 1:=(wrap_i64 o! o!)
 have w9:IntKind.i64.wrap (((k:Nat):Int) - 2)=((k:Nat):Int) - 2:=(wrap_i64 o! o!)
 have LM:aJ env .add 237 false true (some (AV.int .u32 ((((v%10000)%100)*2:Nat):Int))) (some (AV.int .u32 1))=some (AV.int .u32 (((((v%10000)%100)*2)+1:Nat):Int)):=bJ (k:= .u32) (a:=(((v%10000)%100)*2)) (b:=1) (wrap_u32 o!)
 have Cq:=fh (A:=((v%10000)%100)) o!
 have Cr:=ff (A:=((v%10000)%100)) o!
 have yF:bD env (some (.slice 5)) (some (AV.slice p o n c op)) (some (AV.int .i64 (((k:Nat):Int) - 1)))=some (AV.ptr p (o+(k - 1))):=br (by kernel_rfl) (show (k - 1)<n by omega) o!
 obtain ⟨kS,iZ⟩:∃hh:ah,hh=hl.put p (some (aF.cells (setFrom C o (aO .u8 (D.set (k - 1) (48+((v%10000)%100)%10)))) f false)):=⟨_,rfl⟩
 have tT:aQ env hl 5 (AV.ptr p (o+(k - 1))) (AV.int .u8 ((48+((v%10000)%100)%10:Nat):Int))=some kS:=by rw[iZ];exact aU (by kernel_rfl) o! gv (show (k - 1)<D.length by omega)
 have ja:iE hl kS p (aF.cells (setFrom C o (aO .u8 (D.set (k - 1) (48+((v%10000)%100)%10)))) f false):=by rw[iZ];exact bj lB gv
 have rk:=ja.1
 have IP:kS.nx=hl.nx:=by rw[iZ];rfl
 obtain ⟨tU,jb⟩:∃q_,q_=D.set (k - 1) (48+((v%10000)%100)%10):=⟨_,rfl⟩
 have jc:=ja.2.1
 rw[←jb] at jc
 have tV:tU.length=n:=by rw[jb,List.length_set];exact yD
 have ph:Kept p h kS:=pg.trans ja.2.2
 have yx:bD env (some (.slice 5)) (some (AV.slice p o n c op)) (some (AV.int .i64 (((k:Nat):Int) - 2)))=some (AV.ptr p (o+(k - 2))):=br (by kernel_rfl) (show (k - 2)<n by omega) o!
 obtain ⟨mw,jd⟩:∃hh:ah,hh=kS.put p (some (aF.cells (setFrom C o (aO .u8 (tU.set (k - 2) (48+((v%10000)%100) /10)))) f false)):=⟨_,rfl⟩
 have tW:aQ env kS 5 (AV.ptr p (o+(k - 2))) (AV.int .u8 ((48+((v%10000)%100) /10:Nat):Int))=some mw:=by rw[jd];exact aU (by kernel_rfl) o! jc (show (k - 2)<tU.length by omega)
 have je:iE kS mw p (aF.cells (setFrom C o (aO .u8 (tU.set (k - 2) (48+((v%10000)%100) /10)))) f false):=by rw[jd];exact bj rk jc
 have tX:=je.1
 have IQ:mw.nx=kS.nx:=by rw[jd];rfl
 obtain ⟨tY,jf⟩:∃q_,q_=tU.set (k - 2) (48+((v%10000)%100) /10):=⟨_,rfl⟩
 have jg:=je.2.1
 rw[←jf] at jg
 have tZ:tY.length=n:=by rw[jf,List.length_set];exact tV
 have t_:Kept p h mw:=ph.trans je.2.2
 have Oz:IntKind.i64.wrap (((k:Nat):Int) - 3)=((k:Nat):Int) - 3:=(wrap_i64 o! o!)
 have IS:IntKind.i64.wrap (((k:Nat):Int) - 4)=((k:Nat):Int) - 4:=(wrap_i64 o! o!)
 have OA:aJ env .add 237 false true (some (AV.int .u32 ((((v%10000) /100)*2:Nat):Int))) (some (AV.int .u32 1))=some (AV.int .u32 (((((v%10000) /100)*2)+1:Nat):Int)):=bJ (k:= .u32) (a:=(((v%10000) /100)*2)) (b:=1) (wrap_u32 o!)
 have Cs:=fh (A:=((v%10000) /100)) o!
 have Ct:=ff (A:=((v%10000) /100)) o!
 have Cu:bD env (some (.slice 5)) (some (AV.slice p o n c op)) (some (AV.int .i64 (((k:Nat):Int) - 3)))=some (AV.ptr p (o+(k - 3))):=br (by kernel_rfl) (show (k - 3)<n by omega) o!
 obtain ⟨my,jh⟩:∃hh:ah,hh=mw.put p (some (aF.cells (setFrom C o (aO .u8 (tY.set (k - 3) (48+((v%10000) /100)%10)))) f false)):=⟨_,rfl⟩
 have ua:aQ env mw 5 (AV.ptr p (o+(k - 3))) (AV.int .u8 ((48+((v%10000) /100)%10:Nat):Int))=some my:=by rw[jh];exact aU (by kernel_rfl) o! jg (show (k - 3)<tY.length by omega)
 have ji:iE mw my p (aF.cells (setFrom C o (aO .u8 (tY.set (k - 3) (48+((v%10000) /100)%10)))) f false):=by rw[jh];exact bj tX jg
 have ub:=ji.1
 have IT:my.nx=mw.nx:=by rw[jh];rfl
 obtain ⟨uc,jj⟩:∃q_,q_=tY.set (k - 3) (48+((v%10000) /100)%10):=⟨_,rfl⟩
 have jk:=ji.2.1
 rw[←jj] at jk
 have ud:uc.length=n:=by rw[jj,List.length_set];exact tZ
 have ue:Kept p h my:=t_.trans ji.2.2
 have Cv:bD env (some (.slice 5)) (some (AV.slice p o n c op)) (some (AV.int .i64 (((k:Nat):Int) - 4)))=some (AV.ptr p (o+(k - 4))):=br (by kernel_rfl) (show (k - 4)<n by omega) o!
 obtain ⟨ny,jl⟩:∃hh:ah,hh=my.put p (some (aF.cells (setFrom C o (aO .u8 (uc.set (k - 4) (48+((v%10000) /100) /10)))) f false)):=⟨_,rfl⟩
 have uf:aQ env my 5 (AV.ptr p (o+(k - 4))) (AV.int .u8 ((48+((v%10000) /100) /10:Nat):Int))=some ny:=by rw[jl];exact aU (by kernel_rfl) o! jk (show (k - 4)<uc.length by omega)
 have jm:iE my ny p (aF.cells (setFrom C o (aO .u8 (uc.set (k - 4) (48+((v%10000) /100) /10)))) f false):=by rw[jl];exact bj ub jk
 have ug:=jm.1
 have IU:ny.nx=my.nx:=by rw[jl];rfl
 obtain ⟨wu,jn⟩:∃q_,q_=uc.set (k - 4) (48+((v%10000) /100) /10):=⟨_,rfl⟩
 have jo:=jm.2.1
 rw[←jn] at jo
 have wv:wu.length=n:=by rw[jn,List.length_set];exact ud
 have uh:Kept p h ny:=ue.trans jm.2.2
 have OB:(decide (2≤(((k:Nat):Int) - 4)))=true:=(dT o!)
 have U7:aJ env .rem 237 false true (some (AV.int .u32 ((v/10000:Nat):Int))) (some (AV.int .u32 100))=some (AV.int .u32 (((v/10000)%100:Nat):Int)):=ch (k:= .u32) (a:=(v/10000)) (b:=100) o!
 have u32:aJ env .mul 237 false true (some (AV.int .u32 (((v/10000)%100:Nat):Int))) (some (AV.int .u32 2))=some (AV.int .u32 ((((v/10000)%100)*2:Nat):Int)):=b_ (k:= .u32) (a:=((v/10000)%100)) (b:=2) (wrap_u32 o!)
 have U8:aJ env .quo 237 false true (some (AV.int .u32 ((v/10000:Nat):Int))) (some (AV.int .u32 100))=some (AV.int .u32 (((v/10000) /100:Nat):Int)):=cg (k:= .u32) (a:=(v/10000)) (b:=100) o! (wrap_u32 o!)
 have U9:IntKind.i64.wrap ((((k:Nat):Int) - 4) - 1)=(((k:Nat):Int) - 4) - 1:=(wrap_i64 o! o!)
 have RJ:IntKind.i64.wrap ((((k:Nat):Int) - 4) - 2)=(((k:Nat):Int) - 4) - 2:=(wrap_i64 o! o!)
 have U_:aJ env .add 237 false true (some (AV.int .u32 ((((v/10000)%100)*2:Nat):Int))) (some (AV.int .u32 1))=some (AV.int .u32 (((((v/10000)%100)*2)+1:Nat):Int)):=bJ (k:= .u32) (a:=(((v/10000)%100)*2)) (b:=1) (wrap_u32 o!)
 have OC:=fh (A:=((v/10000)%100)) o!
 have OD:=ff (A:=((v/10000)%100)) o!
 have OE:bD env (some (.slice 5)) (some (AV.slice p o n c op)) (some (AV.int .i64 ((((k:Nat):Int) - 4) - 1)))=some (AV.ptr p (o+(k - 5))):=br (by kernel_rfl) (show (k - 5)<n by omega) o!
 obtain ⟨AR,ui⟩:∃hh:ah,hh=ny.put p (some (aF.cells (setFrom C o (aO .u8 (wu.set (k - 5) (48+((v/10000)%100)%10)))) f false)):=⟨_,rfl⟩
 have IV:aQ env ny 5 (AV.ptr p (o+(k - 5))) (AV.int .u8 ((48+((v/10000)%100)%10:Nat):Int))=some AR:=by rw[ui];exact aU (by kernel_rfl) o! jo (show (k - 5)<wu.length by omega)
 have uj:iE ny AR p (aF.cells (setFrom C o (aO .u8 (wu.set (k - 5) (48+((v/10000)%100)%10)))) f false):=by rw[ui];exact bj ug jo
 have IW:=uj.1
 have RK:AR.nx=ny.nx:=by rw[ui];rfl
 obtain ⟨IX,uk⟩:∃q_,q_=wu.set (k - 5) (48+((v/10000)%100)%10):=⟨_,rfl⟩
 have um:=uj.2.1
 rw[←uk] at um
 have IY:IX.length=n:=by rw[uk,List.length_set];exact wv
 have IZ:Kept p h AR:=uh.trans uj.2.2
 have OF:bD env (some (.slice 5)) (some (AV.slice p o n c op)) (some (AV.int .i64 ((((k:Nat):Int) - 4) - 2)))=some (AV.ptr p (o+(k - 6))):=br (by kernel_rfl) (show (k - 6)<n by omega) o!
 obtain ⟨D0,uo⟩:∃hh:ah,hh=AR.put p (some (aF.cells (setFrom C o (aO .u8 (IX.set (k - 6) (48+((v/10000)%100) /10)))) f false)):=⟨_,rfl⟩
 have I0:aQ env AR 5 (AV.ptr p (o+(k - 6))) (AV.int .u8 ((48+((v/10000)%100) /10:Nat):Int))=some D0:=by rw[uo];exact aU (by kernel_rfl) o! um (show (k - 6)<IX.length by omega)
 have uq:iE AR D0 p (aF.cells (setFrom C o (aO .u8 (IX.set (k - 6) (48+((v/10000)%100) /10)))) f false):=by rw[uo];exact bj IW um
 have I1:=uq.1
 have RL:D0.nx=AR.nx:=by rw[uo];rfl
 obtain ⟨M_,ur⟩:∃q_,q_=IX.set (k - 6) (48+((v/10000)%100) /10):=⟨_,rfl⟩
 have uu:=uq.2.1
 rw[←ur] at uu
 have M':M_.length=n:=by rw[ur,List.length_set];exact IY
 have I2:Kept p h D0:=IZ.trans uq.2.2
 have U':(decide (0<((((k:Nat):Int) - 4) - 2)))=true:=(dT o!)
 have Y_:aJ env .add 237 true false (some (AV.int .u32 48)) (some (AV.int .u32 (((v/10000) /100:Nat):Int)))=some (AV.int .u32 ((48+((v/10000) /100):Nat):Int)):=bJ (k:= .u32) (a:=48) (b:=((v/10000) /100)) (wrap_u32 o!)
 have Va:bD env (some (.slice 5)) (some (AV.slice p o n c op)) (some (AV.int .i64 0))=some (AV.ptr p (o+0)):=br (by kernel_rfl) (show 0<n by omega) o!
 obtain ⟨RM,I3⟩:∃hh:ah,hh=D0.put p (some (aF.cells (setFrom C o (aO .u8 (M_.set 0 (48+((v/10000) /100))))) f false)):=⟨_,rfl⟩
 have RN:aQ env D0 5 (AV.ptr p (o+0)) (AV.int .u8 (IntKind.u8.wrap ((48+((v/10000) /100):Nat):Int)))=some RM:=by rw[I3,(wrap_u8 (n:=48+((v/10000) /100)) o!)];exact aU (by kernel_rfl) o! uu (show 0<M_.length by omega)
 have I4:iE D0 RM p (aF.cells (setFrom C o (aO .u8 (M_.set 0 (48+((v/10000) /100))))) f false):=by rw[I3];exact bj I1 uu
 have RO:=I4.1
 have W8:RM.nx=D0.nx:=by rw[I3];rfl
 obtain ⟨W9,I5⟩:∃q_,q_=M_.set 0 (48+((v/10000) /100)):=⟨_,rfl⟩
 have I6:=I4.2.1
 rw[←I5] at I6
 have W_:W9.length=n:=by rw[I5,List.length_set];exact M'
 have RP:Kept p h RM:=I2.trans I4.2.2
 have ev:=pk (d) ef ((AV.slice p o n c op)::(AV.int .u64 ((u:Nat):Int))::dE 165) h .normal RM (CN 3<|LL gd<|CN 4<|VV (cq 3 false true .i64 ((k:Nat):Int) 4)<|BB q1<|CC<|VV u2<|CN 2<|VV u3<|CN 2<|VV u4<|VV u5<|CC<|VV u6<|VV u7<|CN 4<|VV (cY 3 false true w8)<|CN 2<|VV (cY 3 false true w9)<|CC<|VV LM<|VV Cq<|CC<|VV Cr<|VV yF<|SS tT<|VV yx<|SS tW<|CN 2<|VV (cY 3 false true Oz)<|CN 2<|VV (cY 3 false true IS)<|CC<|VV OA<|VV Cs<|CC<|VV Ct<|VV Cu<|SS ua<|VV Cv<|SS uf<|CC<|VV (cY 3 false true IS)<|CN 2<|VV (cq 3 false true .i64 (((k:Nat):Int) - 4) 2)<|BB OB<|CC<|VV U7<|VV u32<|CN 2<|VV U8<|CN 3<|VV (cY 3 false true U9)<|CN 2<|VV (cY 3 false true RJ)<|CC<|VV U_<|VV OC<|CC<|VV OD<|VV OE<|SS IV<|VV OF<|SS I0<|CC<|VV (cY 3 false true RJ)<|CN 2<|VV (fK 3 false true .i64 ((((k:Nat):Int) - 4) - 2) 0)<|BB U'<|CN 2<|VV Y_<|CC<|VV Va<|SS RN<|ZZ) (by kernel_rfl)
 have e:W9=dW u n:=by
  rw[I5,ur,uk,jn,jj,jf,jb,yE,hD,jY (k:=(k - 2)) (m:=k) (i:=(k - 1)) (j:=(k - 2)) o! o! o! o!,jY (k:=(k - 4)) (m:=(k - 2)) (i:=(k - 3)) (j:=(k - 4)) o! o! o! o!,jY (k:=(k - 6)) (m:=(k - 4)) (i:=(k - 5)) (j:=(k - 6)) o! o! o! o!,LK (m:=(k - 6)) o! o!,hk]
  simp only[dW,List.take_zero,Nat.sub_self,List.nil_append,List.cons_append,List.append_assoc]
  simp only[List.cons.injEq,and_true]
  (repeat' apply And.intro)<;>omega
 rw[e] at I6
 exact fH rfl (aX Tryz.func134 mq (by kernel_rfl) (.inl rfl) ev (by kernel_rfl)) ⟨RO,I6,RP⟩ dL wq o!
theorem LO (x:FB d h l u p o n c op C f k v hl yl W D) (hk:k=6):FG d h u p o n c op C f:=by
 obtain ⟨hn,va,hf,wq,dL,gd,J3,hW,yE,hv,lB,kR,vv,gv,hD,yD,J4,tS⟩:=x
 have Ey:v<1000000:=by have:=hv;rw[hk] at this;exact this
 have pg:Kept p h hl:=kR
 have q1:(decide (4≤((k:Nat):Int)))=true:=(dT o!)
 have u2:aJ env .rem 237 false true (some (AV.int .u32 (IntKind.u32.wrap ((v:Nat):Int)))) (some (AV.int .u32 10000))=some (AV.int .u32 ((v%10000:Nat):Int)):=by rw[tS];exact ch (k:= .u32) (a:=v) (b:=10000) o!
 have u3:aJ env .quo 237 false true (some (AV.int .u32 (IntKind.u32.wrap ((v:Nat):Int)))) (some (AV.int .u32 10000))=some (AV.int .u32 ((v/10000:Nat):Int)):=by rw[tS];exact cg (k:= .u32) (a:=v) (b:=10000) o! (wrap_u32 o!)
 have u4:aJ env .quo 237 false true (some (AV.int .u32 ((v%10000:Nat):Int))) (some (AV.int .u32 100))=some (AV.int .u32 (((v%10000) /100:Nat):Int)):=cg (k:= .u32) (a:=(v%10000)) (b:=100) o! (wrap_u32 o!)
 have u5:aJ env .mul 237 false true (some (AV.int .u32 (((v%10000) /100:Nat):Int))) (some (AV.int .u32 2))=some (AV.int .u32 ((((v%10000) /100)*2:Nat):Int)):=b_ (k:= .u32) (a:=((v%10000) /100)) (b:=2) (wrap_u32 o!)
 have u6:aJ env .rem 237 false true (some (AV.int .u32 ((v%10000:Nat):Int))) (some (AV.int .u32 100))=some (AV.int .u32 (((v%10000)%100:Nat):Int)):=ch (k:= .u32) (a:=(v%10000)) (b:=100) o!
 have u7:aJ env .mul 237 false true (some (AV.int .u32 (((v%10000)%100:Nat):Int))) (some (AV.int .u32 2))=some (AV.int .u32 ((((v%10000)%100)*2:Nat):Int)):=b_ (k:= .u32) (a:=((v%10000)%100)) (b:=2) (wrap_u32 o!)
 have w8:IntKind.i64.wrap (((k:Nat):Int) - 1)=((k:Nat):Int) - 1:=(wrap_i64 o! o!)
 have w9:IntKind.i64.wrap (((k:Nat):Int) - 2)=((k:Nat):Int) - 2:=(wrap_i64 o! o!)
 have LM:aJ env .add 237 false true (some (AV.int .u32 ((((v%10000)%100)*2:Nat):Int))) (some (AV.int .u32 1))=some (AV.int .u32 (((((v%10000)%100)*2)+1:Nat):Int)):=bJ (k:= .u32) (a:=(((v%10000)%100)*2)) (b:=1) (wrap_u32 o!)
 have Cq:=fh (A:=((v%10000)%100)) o!
 have Cr:=ff (A:=((v%10000)%100)) o!
 have yF:bD env (some (.slice 5)) (some (AV.slice p o n c op)) (some (AV.int .i64 (((k:Nat):Int) - 1)))=some (AV.ptr p (o+(k - 1))):=br (by kernel_rfl) (show (k - 1)<n by omega) o!
 obtain ⟨kS,iZ⟩:∃hh:ah,hh=hl.put p (some (aF.cells (setFrom C o (aO .u8 (D.set (k - 1) (48+((v%10000)%100)%10)))) f false)):=⟨_,rfl⟩
 have tT:aQ env hl 5 (AV.ptr p (o+(k - 1))) (AV.int .u8 ((48+((v%10000)%100)%10:Nat):Int))=some kS:=by rw[iZ];exact aU (by kernel_rfl) o! gv (show (k - 1)<D.length by omega)
 have ja:iE hl kS p (aF.cells (setFrom C o (aO .u8 (D.set (k - 1) (48+((v%10000)%100)%10)))) f false):=by rw[iZ];exact bj lB gv
 have rk:=ja.1
 have IP:kS.nx=hl.nx:=by rw[iZ];rfl
 obtain ⟨tU,jb⟩:∃q_,q_=D.set (k - 1) (48+((v%10000)%100)%10):=⟨_,rfl⟩
 have jc:=ja.2.1
 rw[←jb] at jc
 have tV:tU.length=n:=by rw[jb,List.length_set];exact yD
 have ph:Kept p h kS:=pg.trans ja.2.2
 have yx:bD env (some (.slice 5)) (some (AV.slice p o n c op)) (some (AV.int .i64 (((k:Nat):Int) - 2)))=some (AV.ptr p (o+(k - 2))):=br (by kernel_rfl) (show (k - 2)<n by omega) o!
 obtain ⟨mw,jd⟩:∃hh:ah,hh=kS.put p (some (aF.cells (setFrom C o (aO .u8 (tU.set (k - 2) (48+((v%10000)%100) /10)))) f false)):=⟨_,rfl⟩
 have tW:aQ env kS 5 (AV.ptr p (o+(k - 2))) (AV.int .u8 ((48+((v%10000)%100) /10:Nat):Int))=some mw:=by rw[jd];exact aU (by kernel_rfl) o! jc (show (k - 2)<tU.length by omega)
 have je:iE kS mw p (aF.cells (setFrom C o (aO .u8 (tU.set (k - 2) (48+((v%10000)%100) /10)))) f false):=by rw[jd];exact bj rk jc
 have tX:=je.1
 have IQ:mw.nx=kS.nx:=by rw[jd];rfl
 obtain ⟨tY,jf⟩:∃q_,q_=tU.set (k - 2) (48+((v%10000)%100) /10):=⟨_,rfl⟩
 have jg:=je.2.1
 rw[←jf] at jg
 have tZ:tY.length=n:=by rw[jf,List.length_set];exact tV
 have t_:Kept p h mw:=ph.trans je.2.2
 have Oz:IntKind.i64.wrap (((k:Nat):Int) - 3)=((k:Nat):Int) - 3:=(wrap_i64 o! o!)
 have IS:IntKind.i64.wrap (((k:Nat):Int) - 4)=((k:Nat):Int) - 4:=(wrap_i64 o! o!)
 have OA:aJ env .add 237 false true (some (AV.int .u32 ((((v%10000) /100)*2:Nat):Int))) (some (AV.int .u32 1))=some (AV.int .u32 (((((v%10000) /100)*2)+1:Nat):Int)):=bJ (k:= .u32) (a:=(((v%10000) /100)*2)) (b:=1) (wrap_u32 o!)
 have Cs:=fh (A:=((v%10000) /100)) o!
 have Ct:=ff (A:=((v%10000) /100)) o!
 have Cu:bD env (some (.slice 5)) (some (AV.slice p o n c op)) (some (AV.int .i64 (((k:Nat):Int) - 3)))=some (AV.ptr p (o+(k - 3))):=br (by kernel_rfl) (show (k - 3)<n by omega) o!
 obtain ⟨my,jh⟩:∃hh:ah,hh=mw.put p (some (aF.cells (setFrom C o (aO .u8 (tY.set (k - 3) (48+((v%10000) /100)%10)))) f false)):=⟨_,rfl⟩
 have ua:aQ env mw 5 (AV.ptr p (o+(k - 3))) (AV.int .u8 ((48+((v%10000) /100)%10:Nat):Int))=some my:=by rw[jh];exact aU (by kernel_rfl) o! jg (show (k - 3)<tY.length by omega)
 have ji:iE mw my p (aF.cells (setFrom C o (aO .u8 (tY.set (k - 3) (48+((v%10000) /100)%10)))) f false):=by rw[jh];exact bj tX jg
 have ub:=ji.1
 have IT:my.nx=mw.nx:=by rw[jh];rfl
 obtain ⟨uc,jj⟩:∃q_,q_=tY.set (k - 3) (48+((v%10000) /100)%10):=⟨_,rfl⟩
 have jk:=ji.2.1
 rw[←jj] at jk
 have ud:uc.length=n:=by rw[jj,List.length_set];exact tZ
 have ue:Kept p h my:=t_.trans ji.2.2
 have Cv:bD env (some (.slice 5)) (some (AV.slice p o n c op)) (some (AV.int .i64 (((k:Nat):Int) - 4)))=some (AV.ptr p (o+(k - 4))):=br (by kernel_rfl) (show (k - 4)<n by omega) o!
 obtain ⟨ny,jl⟩:∃hh:ah,hh=my.put p (some (aF.cells (setFrom C o (aO .u8 (uc.set (k - 4) (48+((v%10000) /100) /10)))) f false)):=⟨_,rfl⟩
 have uf:aQ env my 5 (AV.ptr p (o+(k - 4))) (AV.int .u8 ((48+((v%10000) /100) /10:Nat):Int))=some ny:=by rw[jl];exact aU (by kernel_rfl) o! jk (show (k - 4)<uc.length by omega)
 have jm:iE my ny p (aF.cells (setFrom C o (aO .u8 (uc.set (k - 4) (48+((v%10000) /100) /10)))) f false):=by rw[jl];exact bj ub jk
 have ug:=jm.1
 have IU:ny.nx=my.nx:=by rw[jl];rfl
 obtain ⟨wu,jn⟩:∃q_,q_=uc.set (k - 4) (48+((v%10000) /100) /10):=⟨_,rfl⟩
 have jo:=jm.2.1
 rw[←jn] at jo
 have wv:wu.length=n:=by rw[jn,List.length_set];exact ud
 have uh:Kept p h ny:=ue.trans jm.2.2
 have OB:(decide (2≤(((k:Nat):Int) - 4)))=true:=(dT o!)
 have U7:aJ env .rem 237 false true (some (AV.int .u32 ((v/10000:Nat):Int))) (some (AV.int .u32 100))=some (AV.int .u32 (((v/10000)%100:Nat):Int)):=ch (k:= .u32) (a:=(v/10000)) (b:=100) o!
 have u32:aJ env .mul 237 false true (some (AV.int .u32 (((v/10000)%100:Nat):Int))) (some (AV.int .u32 2))=some (AV.int .u32 ((((v/10000)%100)*2:Nat):Int)):=b_ (k:= .u32) (a:=((v/10000)%100)) (b:=2) (wrap_u32 o!)
 have U8:aJ env .quo 237 false true (some (AV.int .u32 ((v/10000:Nat):Int))) (some (AV.int .u32 100))=some (AV.int .u32 (((v/10000) /100:Nat):Int)):=cg (k:= .u32) (a:=(v/10000)) (b:=100) o! (wrap_u32 o!)
 have U9:IntKind.i64.wrap ((((k:Nat):Int) - 4) - 1)=(((k:Nat):Int) - 4) - 1:=(wrap_i64 o! o!)
 have RJ:IntKind.i64.wrap ((((k:Nat):Int) - 4) - 2)=(((k:Nat):Int) - 4) - 2:=(wrap_i64 o! o!)
 have U_:aJ env .add 237 false true (some (AV.int .u32 ((((v/10000)%100)*2:Nat):Int))) (some (AV.int .u32 1))=some (AV.int .u32 (((((v/10000)%100)*2)+1:Nat):Int)):=bJ (k:= .u32) (a:=(((v/10000)%100)*2)) (b:=1) (wrap_u32 o!)
 have OC:=fh (A:=((v/10000)%100)) o!
 have OD:=ff (A:=((v/10000)%100)) o!
 have OE:bD env (some (.slice 5)) (some (AV.slice p o n c op)) (some (AV.int .i64 ((((k:Nat):Int) - 4) - 1)))=some (AV.ptr p (o+(k - 5))):=br (by kernel_rfl) (show (k - 5)<n by omega) o!
 obtain ⟨AR,ui⟩:∃hh:ah,hh=ny.put p (some (aF.cells (setFrom C o (aO .u8 (wu.set (k - 5) (48+((v/10000)%100)%10)))) f false)):=⟨_,rfl⟩
 have IV:aQ env ny 5 (AV.ptr p (o+(k - 5))) (AV.int .u8 ((48+((v/10000)%100)%10:Nat):Int))=some AR:=by rw[ui];exact aU (by kernel_rfl) o! jo (show (k - 5)<wu.length by omega)
 have uj:iE ny AR p (aF.cells (setFrom C o (aO .u8 (wu.set (k - 5) (48+((v/10000)%100)%10)))) f false):=by rw[ui];exact bj ug jo
 have IW:=uj.1
 have RK:AR.nx=ny.nx:=by rw[ui];rfl
 obtain ⟨IX,uk⟩:∃q_,q_=wu.set (k - 5) (48+((v/10000)%100)%10):=⟨_,rfl⟩
 have um:=uj.2.1
 rw[←uk] at um
 have IY:IX.length=n:=by rw[uk,List.length_set];exact wv
 have IZ:Kept p h AR:=uh.trans uj.2.2
 have OF:bD env (some (.slice 5)) (some (AV.slice p o n c op)) (some (AV.int .i64 ((((k:Nat):Int) - 4) - 2)))=some (AV.ptr p (o+(k - 6))):=br (by kernel_rfl) (show (k - 6)<n by omega) o!
 obtain ⟨D0,uo⟩:∃hh:ah,hh=AR.put p (some (aF.cells (setFrom C o (aO .u8 (IX.set (k - 6) (48+((v/10000)%100) /10)))) f false)):=⟨_,rfl⟩
 have I0:aQ env AR 5 (AV.ptr p (o+(k - 6))) (AV.int .u8 ((48+((v/10000)%100) /10:Nat):Int))=some D0:=by rw[uo];exact aU (by kernel_rfl) o! um (show (k - 6)<IX.length by omega)
 have uq:iE AR D0 p (aF.cells (setFrom C o (aO .u8 (IX.set (k - 6) (48+((v/10000)%100) /10)))) f false):=by rw[uo];exact bj IW um
 have I1:=uq.1
 have RL:D0.nx=AR.nx:=by rw[uo];rfl
 obtain ⟨M_,ur⟩:∃q_,q_=IX.set (k - 6) (48+((v/10000)%100) /10):=⟨_,rfl⟩
 have uu:=uq.2.1
 rw[←ur] at uu
 have M':M_.length=n:=by rw[ur,List.length_set];exact IY
 have I2:Kept p h D0:=IZ.trans uq.2.2
 have U':(decide (0<((((k:Nat):Int) - 4) - 2)))=false:=(dF o!)
 have ev:=pk (d) ef ((AV.slice p o n c op)::(AV.int .u64 ((u:Nat):Int))::dE 165) h .normal D0 (CN 3<|LL gd<|CN 4<|VV (cq 3 false true .i64 ((k:Nat):Int) 4)<|BB q1<|CC<|VV u2<|CN 2<|VV u3<|CN 2<|VV u4<|VV u5<|CC<|VV u6<|VV u7<|CN 4<|VV (cY 3 false true w8)<|CN 2<|VV (cY 3 false true w9)<|CC<|VV LM<|VV Cq<|CC<|VV Cr<|VV yF<|SS tT<|VV yx<|SS tW<|CN 2<|VV (cY 3 false true Oz)<|CN 2<|VV (cY 3 false true IS)<|CC<|VV OA<|VV Cs<|CC<|VV Ct<|VV Cu<|SS ua<|VV Cv<|SS uf<|CC<|VV (cY 3 false true IS)<|CN 2<|VV (cq 3 false true .i64 (((k:Nat):Int) - 4) 2)<|BB OB<|CC<|VV U7<|VV u32<|CN 2<|VV U8<|CN 3<|VV (cY 3 false true U9)<|CN 2<|VV (cY 3 false true RJ)<|CC<|VV U_<|VV OC<|CC<|VV OD<|VV OE<|SS IV<|VV OF<|SS I0<|CC<|VV (cY 3 false true RJ)<|CN 2<|VV (fK 3 false true .i64 ((((k:Nat):Int) - 4) - 2) 0)<|BB U'<|ZZ) (by kernel_rfl)
 have e:M_=dW u n:=by
  rw[ur,uk,jn,jj,jf,jb,yE,hD,jY (k:=(k - 2)) (m:=k) (i:=(k - 1)) (j:=(k - 2)) o! o! o! o!,jY (k:=(k - 4)) (m:=(k - 2)) (i:=(k - 3)) (j:=(k - 4)) o! o! o! o!,jY (k:=(k - 6)) (m:=(k - 4)) (i:=(k - 5)) (j:=(k - 6)) o! o! o! o!,hk]
  simp only[dW,List.take_zero,Nat.sub_self,List.nil_append,List.cons_append,List.append_assoc]
  simp only[List.cons.injEq,and_true]
  (repeat' apply And.intro)<;>omega
 rw[e] at uu
 exact fH rfl (aX Tryz.func134 mq (by kernel_rfl) (.inl rfl) ev (by kernel_rfl)) ⟨I1,uu,I2⟩ dL wq o!
theorem LP (x:FB d h l u p o n c op C f k v hl yl W D) (hk:k=5):FG d h u p o n c op C f:=by
 obtain ⟨hn,va,hf,wq,dL,gd,J3,hW,yE,hv,lB,kR,vv,gv,hD,yD,J4,tS⟩:=x
 have Ey:v<100000:=by have:=hv;rw[hk] at this;exact this
 have pg:Kept p h hl:=kR
 have q1:(decide (4≤((k:Nat):Int)))=true:=(dT o!)
 have u2:aJ env .rem 237 false true (some (AV.int .u32 (IntKind.u32.wrap ((v:Nat):Int)))) (some (AV.int .u32 10000))=some (AV.int .u32 ((v%10000:Nat):Int)):=by rw[tS];exact ch (k:= .u32) (a:=v) (b:=10000) o!
 have u3:aJ env .quo 237 false true (some (AV.int .u32 (IntKind.u32.wrap ((v:Nat):Int)))) (some (AV.int .u32 10000))=some (AV.int .u32 ((v/10000:Nat):Int)):=by rw[tS];exact cg (k:= .u32) (a:=v) (b:=10000) o! (wrap_u32 o!)
 have u4:aJ env .quo 237 false true (some (AV.int .u32 ((v%10000:Nat):Int))) (some (AV.int .u32 100))=some (AV.int .u32 (((v%10000) /100:Nat):Int)):=cg (k:= .u32) (a:=(v%10000)) (b:=100) o! (wrap_u32 o!)
 have u5:aJ env .mul 237 false true (some (AV.int .u32 (((v%10000) /100:Nat):Int))) (some (AV.int .u32 2))=some (AV.int .u32 ((((v%10000) /100)*2:Nat):Int)):=b_ (k:= .u32) (a:=((v%10000) /100)) (b:=2) (wrap_u32 o!)
 have u6:aJ env .rem 237 false true (some (AV.int .u32 ((v%10000:Nat):Int))) (some (AV.int .u32 100))=some (AV.int .u32 (((v%10000)%100:Nat):Int)):=ch (k:= .u32) (a:=(v%10000)) (b:=100) o!
 have u7:aJ env .mul 237 false true (some (AV.int .u32 (((v%10000)%100:Nat):Int))) (some (AV.int .u32 2))=some (AV.int .u32 ((((v%10000)%100)*2:Nat):Int)):=b_ (k:= .u32) (a:=((v%10000)%100)) (b:=2) (wrap_u32 o!)
 have w8:IntKind.i64.wrap (((k:Nat):Int) - 1)=((k:Nat):Int) - 1:=(wrap_i64 o! o!)
 have w9:IntKind.i64.wrap (((k:Nat):Int) - 2)=((k:Nat):Int) - 2:=(wrap_i64 o! o!)
 have LM:aJ env .add 237 false true (some (AV.int .u32 ((((v%10000)%100)*2:Nat):Int))) (some (AV.int .u32 1))=some (AV.int .u32 (((((v%10000)%100)*2)+1:Nat):Int)):=bJ (k:= .u32) (a:=(((v%10000)%100)*2)) (b:=1) (wrap_u32 o!)
 have Cq:=fh (A:=((v%10000)%100)) o!
 have Cr:=ff (A:=((v%10000)%100)) o!
 have yF:bD env (some (.slice 5)) (some (AV.slice p o n c op)) (some (AV.int .i64 (((k:Nat):Int) - 1)))=some (AV.ptr p (o+(k - 1))):=br (by kernel_rfl) (show (k - 1)<n by omega) o!
 obtain ⟨kS,iZ⟩:∃hh:ah,hh=hl.put p (some (aF.cells (setFrom C o (aO .u8 (D.set (k - 1) (48+((v%10000)%100)%10)))) f false)):=⟨_,rfl⟩
 have tT:aQ env hl 5 (AV.ptr p (o+(k - 1))) (AV.int .u8 ((48+((v%10000)%100)%10:Nat):Int))=some kS:=by rw[iZ];exact aU (by kernel_rfl) o! gv (show (k - 1)<D.length by omega)
 have ja:iE hl kS p (aF.cells (setFrom C o (aO .u8 (D.set (k - 1) (48+((v%10000)%100)%10)))) f false):=by rw[iZ];exact bj lB gv
 have rk:=ja.1
 have IP:kS.nx=hl.nx:=by rw[iZ];rfl
 obtain ⟨tU,jb⟩:∃q_,q_=D.set (k - 1) (48+((v%10000)%100)%10):=⟨_,rfl⟩
 have jc:=ja.2.1
 rw[←jb] at jc
 have tV:tU.length=n:=by rw[jb,List.length_set];exact yD
 have ph:Kept p h kS:=pg.trans ja.2.2
 have yx:bD env (some (.slice 5)) (some (AV.slice p o n c op)) (some (AV.int .i64 (((k:Nat):Int) - 2)))=some (AV.ptr p (o+(k - 2))):=br (by kernel_rfl) (show (k - 2)<n by omega) o!
 obtain ⟨mw,jd⟩:∃hh:ah,hh=kS.put p (some (aF.cells (setFrom C o (aO .u8 (tU.set (k - 2) (48+((v%10000)%100) /10)))) f false)):=⟨_,rfl⟩
 have tW:aQ env kS 5 (AV.ptr p (o+(k - 2))) (AV.int .u8 ((48+((v%10000)%100) /10:Nat):Int))=some mw:=by rw[jd];exact aU (by kernel_rfl) o! jc (show (k - 2)<tU.length by omega)
 have je:iE kS mw p (aF.cells (setFrom C o (aO .u8 (tU.set (k - 2) (48+((v%10000)%100) /10)))) f false):=by rw[jd];exact bj rk jc
 have tX:=je.1
 have IQ:mw.nx=kS.nx:=by rw[jd];rfl
 obtain ⟨tY,jf⟩:∃q_,q_=tU.set (k - 2) (48+((v%10000)%100) /10):=⟨_,rfl⟩
 have jg:=je.2.1
 rw[←jf] at jg
 have tZ:tY.length=n:=by rw[jf,List.length_set];exact tV
 have t_:Kept p h mw:=ph.trans je.2.2
 have Oz:IntKind.i64.wrap (((k:Nat):Int) - 3)=((k:Nat):Int) - 3:=(wrap_i64 o! o!)
 have IS:IntKind.i64.wrap (((k:Nat):Int) - 4)=((k:Nat):Int) - 4:=(wrap_i64 o! o!)
 have OA:aJ env .add 237 false true (some (AV.int .u32 ((((v%10000) /100)*2:Nat):Int))) (some (AV.int .u32 1))=some (AV.int .u32 (((((v%10000) /100)*2)+1:Nat):Int)):=bJ (k:= .u32) (a:=(((v%10000) /100)*2)) (b:=1) (wrap_u32 o!)
 have Cs:=fh (A:=((v%10000) /100)) o!
 have Ct:=ff (A:=((v%10000) /100)) o!
 have Cu:bD env (some (.slice 5)) (some (AV.slice p o n c op)) (some (AV.int .i64 (((k:Nat):Int) - 3)))=some (AV.ptr p (o+(k - 3))):=br (by kernel_rfl) (show (k - 3)<n by omega) o!
 obtain ⟨my,jh⟩:∃hh:ah,hh=mw.put p (some (aF.cells (setFrom C o (aO .u8 (tY.set (k - 3) (48+((v%10000) /100)%10)))) f false)):=⟨_,rfl⟩
 have ua:aQ env mw 5 (AV.ptr p (o+(k - 3))) (AV.int .u8 ((48+((v%10000) /100)%10:Nat):Int))=some my:=by rw[jh];exact aU (by kernel_rfl) o! jg (show (k - 3)<tY.length by omega)
 have ji:iE mw my p (aF.cells (setFrom C o (aO .u8 (tY.set (k - 3) (48+((v%10000) /100)%10)))) f false):=by rw[jh];exact bj tX jg
 have ub:=ji.1
 have IT:my.nx=mw.nx:=by rw[jh];rfl
 obtain ⟨uc,jj⟩:∃q_,q_=tY.set (k - 3) (48+((v%10000) /100)%10):=⟨_,rfl⟩
 have jk:=ji.2.1
 rw[←jj] at jk
 have ud:uc.length=n:=by rw[jj,List.length_set];exact tZ
 have ue:Kept p h my:=t_.trans ji.2.2
 have Cv:bD env (some (.slice 5)) (some (AV.slice p o n c op)) (some (AV.int .i64 (((k:Nat):Int) - 4)))=some (AV.ptr p (o+(k - 4))):=br (by kernel_rfl) (show (k - 4)<n by omega) o!
 obtain ⟨ny,jl⟩:∃hh:ah,hh=my.put p (some (aF.cells (setFrom C o (aO .u8 (uc.set (k - 4) (48+((v%10000) /100) /10)))) f false)):=⟨_,rfl⟩
 have uf:aQ env my 5 (AV.ptr p (o+(k - 4))) (AV.int .u8 ((48+((v%10000) /100) /10:Nat):Int))=some ny:=by rw[jl];exact aU (by kernel_rfl) o! jk (show (k - 4)<uc.length by omega)
 have jm:iE my ny p (aF.cells (setFrom C o (aO .u8 (uc.set (k - 4) (48+((v%10000) /100) /10)))) f false):=by rw[jl];exact bj ub jk
 have ug:=jm.1
 have IU:ny.nx=my.nx:=by rw[jl];rfl
 obtain ⟨wu,jn⟩:∃q_,q_=uc.set (k - 4) (48+((v%10000) /100) /10):=⟨_,rfl⟩
 have jo:=jm.2.1
 rw[←jn] at jo
 have wv:wu.length=n:=by rw[jn,List.length_set];exact ud
 have uh:Kept p h ny:=ue.trans jm.2.2
 have OB:(decide (2≤(((k:Nat):Int) - 4)))=false:=(dF o!)
 have Vb:(decide (0<(((k:Nat):Int) - 4)))=true:=(dT o!)
 have u32:aJ env .add 237 true false (some (AV.int .u32 48)) (some (AV.int .u32 ((v/10000:Nat):Int)))=some (AV.int .u32 ((48+(v/10000):Nat):Int)):=bJ (k:= .u32) (a:=48) (b:=(v/10000)) (wrap_u32 o!)
 have Oy:bD env (some (.slice 5)) (some (AV.slice p o n c op)) (some (AV.int .i64 0))=some (AV.ptr p (o+0)):=br (by kernel_rfl) (show 0<n by omega) o!
 obtain ⟨da,tO⟩:∃hh:ah,hh=ny.put p (some (aF.cells (setFrom C o (aO .u8 (wu.set 0 (48+(v/10000))))) f false)):=⟨_,rfl⟩
 have Iz:aQ env ny 5 (AV.ptr p (o+0)) (AV.int .u8 (IntKind.u8.wrap ((48+(v/10000):Nat):Int)))=some da:=by rw[tO,(wrap_u8 (n:=48+(v/10000)) o!)];exact aU (by kernel_rfl) o! jo (show 0<wu.length by omega)
 have tP:iE ny da p (aF.cells (setFrom C o (aO .u8 (wu.set 0 (48+(v/10000))))) f false):=by rw[tO];exact bj ug jo
 have mu:=tP.1
 have Rp:da.nx=ny.nx:=by rw[tO];rfl
 obtain ⟨M5,tQ⟩:∃q_,q_=wu.set 0 (48+(v/10000)):=⟨_,rfl⟩
 have tR:=tP.2.1
 rw[←tQ] at tR
 have M6:M5.length=n:=by rw[tQ,List.length_set];exact wv
 have AP:Kept p h da:=uh.trans tP.2.2
 have ev:=pk (d) ef ((AV.slice p o n c op)::(AV.int .u64 ((u:Nat):Int))::dE 165) h .normal da (CN 3<|LL gd<|CN 4<|VV (cq 3 false true .i64 ((k:Nat):Int) 4)<|BB q1<|CC<|VV u2<|CN 2<|VV u3<|CN 2<|VV u4<|VV u5<|CC<|VV u6<|VV u7<|CN 4<|VV (cY 3 false true w8)<|CN 2<|VV (cY 3 false true w9)<|CC<|VV LM<|VV Cq<|CC<|VV Cr<|VV yF<|SS tT<|VV yx<|SS tW<|CN 2<|VV (cY 3 false true Oz)<|CN 2<|VV (cY 3 false true IS)<|CC<|VV OA<|VV Cs<|CC<|VV Ct<|VV Cu<|SS ua<|VV Cv<|SS uf<|CC<|VV (cY 3 false true IS)<|CN 2<|VV (cq 3 false true .i64 (((k:Nat):Int) - 4) 2)<|BB OB<|CC<|VV (fK 3 false true .i64 (((k:Nat):Int) - 4) 0)<|BB Vb<|CN 2<|VV u32<|CC<|VV Oy<|SS Iz<|ZZ) (by kernel_rfl)
 have e:M5=dW u n:=by
  rw[tQ,jn,jj,jf,jb,yE,hD,jY (k:=(k - 2)) (m:=k) (i:=(k - 1)) (j:=(k - 2)) o! o! o! o!,jY (k:=(k - 4)) (m:=(k - 2)) (i:=(k - 3)) (j:=(k - 4)) o! o! o! o!,LK (m:=(k - 4)) o! o!,hk]
  simp only[dW,List.take_zero,Nat.sub_self,List.nil_append,List.cons_append,List.append_assoc]
  simp only[List.cons.injEq,and_true]
  (repeat' apply And.intro)<;>omega
 rw[e] at tR
 exact fH rfl (aX Tryz.func134 mq (by kernel_rfl) (.inl rfl) ev (by kernel_rfl)) ⟨mu,tR,AP⟩ dL wq o!
theorem LQ (x:FB d h l u p o n c op C f k v hl yl W D) (hk:k=4):FG d h u p o n c op C f:=by
 obtain ⟨hn,va,hf,wq,dL,gd,J3,hW,yE,hv,lB,kR,vv,gv,hD,yD,J4,tS⟩:=x
 have Ey:v<10000:=by have:=hv;rw[hk] at this;exact this
 have pg:Kept p h hl:=kR
 have q1:(decide (4≤((k:Nat):Int)))=true:=(dT o!)
 have u2:aJ env .rem 237 false true (some (AV.int .u32 (IntKind.u32.wrap ((v:Nat):Int)))) (some (AV.int .u32 10000))=some (AV.int .u32 ((v%10000:Nat):Int)):=by rw[tS];exact ch (k:= .u32) (a:=v) (b:=10000) o!
 have u3:aJ env .quo 237 false true (some (AV.int .u32 (IntKind.u32.wrap ((v:Nat):Int)))) (some (AV.int .u32 10000))=some (AV.int .u32 ((v/10000:Nat):Int)):=by rw[tS];exact cg (k:= .u32) (a:=v) (b:=10000) o! (wrap_u32 o!)
 have u4:aJ env .quo 237 false true (some (AV.int .u32 ((v%10000:Nat):Int))) (some (AV.int .u32 100))=some (AV.int .u32 (((v%10000) /100:Nat):Int)):=cg (k:= .u32) (a:=(v%10000)) (b:=100) o! (wrap_u32 o!)
 have u5:aJ env .mul 237 false true (some (AV.int .u32 (((v%10000) /100:Nat):Int))) (some (AV.int .u32 2))=some (AV.int .u32 ((((v%10000) /100)*2:Nat):Int)):=b_ (k:= .u32) (a:=((v%10000) /100)) (b:=2) (wrap_u32 o!)
 have u6:aJ env .rem 237 false true (some (AV.int .u32 ((v%10000:Nat):Int))) (some (AV.int .u32 100))=some (AV.int .u32 (((v%10000)%100:Nat):Int)):=ch (k:= .u32) (a:=(v%10000)) (b:=100) o!
 have u7:aJ env .mul 237 false true (some (AV.int .u32 (((v%10000)%100:Nat):Int))) (some (AV.int .u32 2))=some (AV.int .u32 ((((v%10000)%100)*2:Nat):Int)):=b_ (k:= .u32) (a:=((v%10000)%100)) (b:=2) (wrap_u32 o!)
 have w8:IntKind.i64.wrap (((k:Nat):Int) - 1)=((k:Nat):Int) - 1:=(wrap_i64 o! o!)
 have w9:IntKind.i64.wrap (((k:Nat):Int) - 2)=((k:Nat):Int) - 2:=(wrap_i64 o! o!)
 have LM:aJ env .add 237 false true (some (AV.int .u32 ((((v%10000)%100)*2:Nat):Int))) (some (AV.int .u32 1))=some (AV.int .u32 (((((v%10000)%100)*2)+1:Nat):Int)):=bJ (k:= .u32) (a:=(((v%10000)%100)*2)) (b:=1) (wrap_u32 o!)
 have Cq:=fh (A:=((v%10000)%100)) o!
 have Cr:=ff (A:=((v%10000)%100)) o!
 have yF:bD env (some (.slice 5)) (some (AV.slice p o n c op)) (some (AV.int .i64 (((k:Nat):Int) - 1)))=some (AV.ptr p (o+(k - 1))):=br (by kernel_rfl) (show (k - 1)<n by omega) o!
 obtain ⟨kS,iZ⟩:∃hh:ah,hh=hl.put p (some (aF.cells (setFrom C o (aO .u8 (D.set (k - 1) (48+((v%10000)%100)%10)))) f false)):=⟨_,rfl⟩
 have tT:aQ env hl 5 (AV.ptr p (o+(k - 1))) (AV.int .u8 ((48+((v%10000)%100)%10:Nat):Int))=some kS:=by rw[iZ];exact aU (by kernel_rfl) o! gv (show (k - 1)<D.length by omega)
 have ja:iE hl kS p (aF.cells (setFrom C o (aO .u8 (D.set (k - 1) (48+((v%10000)%100)%10)))) f false):=by rw[iZ];exact bj lB gv
 have rk:=ja.1
 have IP:kS.nx=hl.nx:=by rw[iZ];rfl
 obtain ⟨tU,jb⟩:∃q_,q_=D.set (k - 1) (48+((v%10000)%100)%10):=⟨_,rfl⟩
 have jc:=ja.2.1
 rw[←jb] at jc
 have tV:tU.length=n:=by rw[jb,List.length_set];exact yD
 have ph:Kept p h kS:=pg.trans ja.2.2
 have yx:bD env (some (.slice 5)) (some (AV.slice p o n c op)) (some (AV.int .i64 (((k:Nat):Int) - 2)))=some (AV.ptr p (o+(k - 2))):=br (by kernel_rfl) (show (k - 2)<n by omega) o!
 obtain ⟨mw,jd⟩:∃hh:ah,hh=kS.put p (some (aF.cells (setFrom C o (aO .u8 (tU.set (k - 2) (48+((v%10000)%100) /10)))) f false)):=⟨_,rfl⟩
 have tW:aQ env kS 5 (AV.ptr p (o+(k - 2))) (AV.int .u8 ((48+((v%10000)%100) /10:Nat):Int))=some mw:=by rw[jd];exact aU (by kernel_rfl) o! jc (show (k - 2)<tU.length by omega)
 have je:iE kS mw p (aF.cells (setFrom C o (aO .u8 (tU.set (k - 2) (48+((v%10000)%100) /10)))) f false):=by rw[jd];exact bj rk jc
 have tX:=je.1
 have IQ:mw.nx=kS.nx:=by rw[jd];rfl
 obtain ⟨tY,jf⟩:∃q_,q_=tU.set (k - 2) (48+((v%10000)%100) /10):=⟨_,rfl⟩
 have jg:=je.2.1
 rw[←jf] at jg
 have tZ:tY.length=n:=by rw[jf,List.length_set];exact tV
 have t_:Kept p h mw:=ph.trans je.2.2
 have Oz:IntKind.i64.wrap (((k:Nat):Int) - 3)=((k:Nat):Int) - 3:=(wrap_i64 o! o!)
 have IS:IntKind.i64.wrap (((k:Nat):Int) - 4)=((k:Nat):Int) - 4:=(wrap_i64 o! o!)
 have OA:aJ env .add 237 false true (some (AV.int .u32 ((((v%10000) /100)*2:Nat):Int))) (some (AV.int .u32 1))=some (AV.int .u32 (((((v%10000) /100)*2)+1:Nat):Int)):=bJ (k:= .u32) (a:=(((v%10000) /100)*2)) (b:=1) (wrap_u32 o!)
 have Cs:=fh (A:=((v%10000) /100)) o!
 have Ct:=ff (A:=((v%10000) /100)) o!
 have Cu:bD env (some (.slice 5)) (some (AV.slice p o n c op)) (some (AV.int .i64 (((k:Nat):Int) - 3)))=some (AV.ptr p (o+(k - 3))):=br (by kernel_rfl) (show (k - 3)<n by omega) o!
 obtain ⟨my,jh⟩:∃hh:ah,hh=mw.put p (some (aF.cells (setFrom C o (aO .u8 (tY.set (k - 3) (48+((v%10000) /100)%10)))) f false)):=⟨_,rfl⟩
 have ua:aQ env mw 5 (AV.ptr p (o+(k - 3))) (AV.int .u8 ((48+((v%10000) /100)%10:Nat):Int))=some my:=by rw[jh];exact aU (by kernel_rfl) o! jg (show (k - 3)<tY.length by omega)
 have ji:iE mw my p (aF.cells (setFrom C o (aO .u8 (tY.set (k - 3) (48+((v%10000) /100)%10)))) f false):=by rw[jh];exact bj tX jg
 have ub:=ji.1
 have IT:my.nx=mw.nx:=by rw[jh];rfl
 obtain ⟨uc,jj⟩:∃q_,q_=tY.set (k - 3) (48+((v%10000) /100)%10):=⟨_,rfl⟩
 have jk:=ji.2.1
 rw[←jj] at jk
 have ud:uc.length=n:=by rw[jj,List.length_set];exact tZ
 have ue:Kept p h my:=t_.trans ji.2.2
 have Cv:bD env (some (.slice 5)) (some (AV.slice p o n c op)) (some (AV.int .i64 (((k:Nat):Int) - 4)))=some (AV.ptr p (o+(k - 4))):=br (by kernel_rfl) (show (k - 4)<n by omega) o!
 obtain ⟨ny,jl⟩:∃hh:ah,hh=my.put p (some (aF.cells (setFrom C o (aO .u8 (uc.set (k - 4) (48+((v%10000) /100) /10)))) f false)):=⟨_,rfl⟩
 have uf:aQ env my 5 (AV.ptr p (o+(k - 4))) (AV.int .u8 ((48+((v%10000) /100) /10:Nat):Int))=some ny:=by rw[jl];exact aU (by kernel_rfl) o! jk (show (k - 4)<uc.length by omega)
 have jm:iE my ny p (aF.cells (setFrom C o (aO .u8 (uc.set (k - 4) (48+((v%10000) /100) /10)))) f false):=by rw[jl];exact bj ub jk
 have ug:=jm.1
 have IU:ny.nx=my.nx:=by rw[jl];rfl
 obtain ⟨wu,jn⟩:∃q_,q_=uc.set (k - 4) (48+((v%10000) /100) /10):=⟨_,rfl⟩
 have jo:=jm.2.1
 rw[←jn] at jo
 have wv:wu.length=n:=by rw[jn,List.length_set];exact ud
 have uh:Kept p h ny:=ue.trans jm.2.2
 have OB:(decide (2≤(((k:Nat):Int) - 4)))=false:=(dF o!)
 have Vb:(decide (0<(((k:Nat):Int) - 4)))=false:=(dF o!)
 have ev:=pk (d) ef ((AV.slice p o n c op)::(AV.int .u64 ((u:Nat):Int))::dE 165) h .normal ny (CN 3<|LL gd<|CN 4<|VV (cq 3 false true .i64 ((k:Nat):Int) 4)<|BB q1<|CC<|VV u2<|CN 2<|VV u3<|CN 2<|VV u4<|VV u5<|CC<|VV u6<|VV u7<|CN 4<|VV (cY 3 false true w8)<|CN 2<|VV (cY 3 false true w9)<|CC<|VV LM<|VV Cq<|CC<|VV Cr<|VV yF<|SS tT<|VV yx<|SS tW<|CN 2<|VV (cY 3 false true Oz)<|CN 2<|VV (cY 3 false true IS)<|CC<|VV OA<|VV Cs<|CC<|VV Ct<|VV Cu<|SS ua<|VV Cv<|SS uf<|CC<|VV (cY 3 false true IS)<|CN 2<|VV (cq 3 false true .i64 (((k:Nat):Int) - 4) 2)<|BB OB<|CC<|VV (fK 3 false true .i64 (((k:Nat):Int) - 4) 0)<|BB Vb<|ZZ) (by kernel_rfl)
 have e:wu=dW u n:=by
  rw[jn,jj,jf,jb,yE,hD,jY (k:=(k - 2)) (m:=k) (i:=(k - 1)) (j:=(k - 2)) o! o! o! o!,jY (k:=(k - 4)) (m:=(k - 2)) (i:=(k - 3)) (j:=(k - 4)) o! o! o! o!,hk]
  simp only[dW,List.take_zero,Nat.sub_self,List.nil_append,List.cons_append,List.append_assoc]
  simp only[List.cons.injEq,and_true]
  (repeat' apply And.intro)<;>omega
 rw[e] at jo
 exact fH rfl (aX Tryz.func134 mq (by kernel_rfl) (.inl rfl) ev (by kernel_rfl)) ⟨ug,jo,uh⟩ dL wq o!
theorem LS (x:FB d h l u p o n c op C f k v hl yl W D) (hk:k=3):FG d h u p o n c op C f:=by
 obtain ⟨hn,va,hf,wq,dL,gd,J3,hW,yE,hv,lB,kR,vv,gv,hD,yD,J4,tS⟩:=x
 have Ey:v<1000:=by have:=hv;rw[hk] at this;exact this
 have pg:Kept p h hl:=kR
 have q1:(decide (4≤((k:Nat):Int)))=false:=(dF o!)
 have q2:(decide (2≤((k:Nat):Int)))=true:=(dT o!)
 have u3:aJ env .rem 237 false true (some (AV.int .u32 (IntKind.u32.wrap ((v:Nat):Int)))) (some (AV.int .u32 100))=some (AV.int .u32 ((v%100:Nat):Int)):=by rw[tS];exact ch (k:= .u32) (a:=v) (b:=100) o!
 have u4:aJ env .mul 237 false true (some (AV.int .u32 ((v%100:Nat):Int))) (some (AV.int .u32 2))=some (AV.int .u32 (((v%100)*2:Nat):Int)):=b_ (k:= .u32) (a:=(v%100)) (b:=2) (wrap_u32 o!)
 have u5:aJ env .quo 237 false true (some (AV.int .u32 (IntKind.u32.wrap ((v:Nat):Int)))) (some (AV.int .u32 100))=some (AV.int .u32 ((v/100:Nat):Int)):=by rw[tS];exact cg (k:= .u32) (a:=v) (b:=100) o! (wrap_u32 o!)
 have w6:IntKind.i64.wrap (((k:Nat):Int) - 1)=((k:Nat):Int) - 1:=(wrap_i64 o! o!)
 have w7:IntKind.i64.wrap (((k:Nat):Int) - 2)=((k:Nat):Int) - 2:=(wrap_i64 o! o!)
 have u8:aJ env .add 237 false true (some (AV.int .u32 (((v%100)*2:Nat):Int))) (some (AV.int .u32 1))=some (AV.int .u32 ((((v%100)*2)+1:Nat):Int)):=bJ (k:= .u32) (a:=((v%100)*2)) (b:=1) (wrap_u32 o!)
 have Vc:=fh (A:=(v%100)) o!
 have OG:=ff (A:=(v%100)) o!
 have OH:bD env (some (.slice 5)) (some (AV.slice p o n c op)) (some (AV.int .i64 (((k:Nat):Int) - 1)))=some (AV.ptr p (o+(k - 1))):=br (by kernel_rfl) (show (k - 1)<n by omega) o!
 obtain ⟨uv,uw⟩:∃hh:ah,hh=hl.put p (some (aF.cells (setFrom C o (aO .u8 (D.set (k - 1) (48+(v%100)%10)))) f false)):=⟨_,rfl⟩
 have I7:aQ env hl 5 (AV.ptr p (o+(k - 1))) (AV.int .u8 ((48+(v%100)%10:Nat):Int))=some uv:=by rw[uw];exact aU (by kernel_rfl) o! gv (show (k - 1)<D.length by omega)
 have ux:iE hl uv p (aF.cells (setFrom C o (aO .u8 (D.set (k - 1) (48+(v%100)%10)))) f false):=by rw[uw];exact bj lB gv
 have AS:=ux.1
 have Na:uv.nx=hl.nx:=by rw[uw];rfl
 obtain ⟨I8,uy⟩:∃q_,q_=D.set (k - 1) (48+(v%100)%10):=⟨_,rfl⟩
 have pj:=ux.2.1
 rw[←uy] at pj
 have I9:I8.length=n:=by rw[uy,List.length_set];exact yD
 have wx:Kept p h uv:=pg.trans ux.2.2
 have OI:bD env (some (.slice 5)) (some (AV.slice p o n c op)) (some (AV.int .i64 (((k:Nat):Int) - 2)))=some (AV.ptr p (o+(k - 2))):=br (by kernel_rfl) (show (k - 2)<n by omega) o!
 obtain ⟨D1,uz⟩:∃hh:ah,hh=uv.put p (some (aF.cells (setFrom C o (aO .u8 (I8.set (k - 2) (48+(v%100) /10)))) f false)):=⟨_,rfl⟩
 have I_:aQ env uv 5 (AV.ptr p (o+(k - 2))) (AV.int .u8 ((48+(v%100) /10:Nat):Int))=some D1:=by rw[uz];exact aU (by kernel_rfl) o! pj (show (k - 2)<I8.length by omega)
 have uA:iE uv D1 p (aF.cells (setFrom C o (aO .u8 (I8.set (k - 2) (48+(v%100) /10)))) f false):=by rw[uz];exact bj AS pj
 have I':=uA.1
 have RQ:D1.nx=uv.nx:=by rw[uz];rfl
 obtain ⟨Nb,uB⟩:∃q_,q_=I8.set (k - 2) (48+(v%100) /10):=⟨_,rfl⟩
 have uC:=uA.2.1
 rw[←uB] at uC
 have Nc:Nb.length=n:=by rw[uB,List.length_set];exact I9
 have Ja:Kept p h D1:=wx.trans uA.2.2
 have PI:(decide (0<(((k:Nat):Int) - 2)))=true:=(dT o!)
 have Vd:aJ env .add 237 true false (some (AV.int .u32 48)) (some (AV.int .u32 ((v/100:Nat):Int)))=some (AV.int .u32 ((48+(v/100):Nat):Int)):=bJ (k:= .u32) (a:=48) (b:=(v/100)) (wrap_u32 o!)
 have Ox:bD env (some (.slice 5)) (some (AV.slice p o n c op)) (some (AV.int .i64 0))=some (AV.ptr p (o+0)):=br (by kernel_rfl) (show 0<n by omega) o!
 obtain ⟨DX,tK⟩:∃hh:ah,hh=D1.put p (some (aF.cells (setFrom C o (aO .u8 (Nb.set 0 (48+(v/100))))) f false)):=⟨_,rfl⟩
 have Io:aQ env D1 5 (AV.ptr p (o+0)) (AV.int .u8 (IntKind.u8.wrap ((48+(v/100):Nat):Int)))=some DX:=by rw[tK,(wrap_u8 (n:=48+(v/100)) o!)];exact aU (by kernel_rfl) o! uC (show 0<Nb.length by omega)
 have tL:iE D1 DX p (aF.cells (setFrom C o (aO .u8 (Nb.set 0 (48+(v/100))))) f false):=by rw[tK];exact bj I' uC
 have Ip:=tL.1
 have Re:DX.nx=D1.nx:=by rw[tK];rfl
 obtain ⟨M1,tM⟩:∃q_,q_=Nb.set 0 (48+(v/100)):=⟨_,rfl⟩
 have tN:=tL.2.1
 rw[←tM] at tN
 have M3:M1.length=n:=by rw[tM,List.length_set];exact Nc
 have Iq:Kept p h DX:=Ja.trans tL.2.2
 have ev:=pk (d) ef ((AV.slice p o n c op)::(AV.int .u64 ((u:Nat):Int))::dE 165) h .normal DX (CN 3<|LL gd<|CN 4<|VV (cq 3 false true .i64 ((k:Nat):Int) 4)<|BB q1<|CC<|VV (cq 3 false true .i64 ((k:Nat):Int) 2)<|BB q2<|CC<|VV u3<|VV u4<|CN 2<|VV u5<|CN 3<|VV (cY 3 false true w6)<|CN 2<|VV (cY 3 false true w7)<|CC<|VV u8<|VV Vc<|CC<|VV OG<|VV OH<|SS I7<|VV OI<|SS I_<|CC<|VV (cY 3 false true w7)<|CN 2<|VV (fK 3 false true .i64 (((k:Nat):Int) - 2) 0)<|BB PI<|CN 2<|VV Vd<|CC<|VV Ox<|SS Io<|ZZ) (by kernel_rfl)
 have e:M1=dW u n:=by
  rw[tM,uB,uy,yE,hD,jY (k:=(k - 2)) (m:=k) (i:=(k - 1)) (j:=(k - 2)) o! o! o! o!,LK (m:=(k - 2)) o! o!,hk]
  simp only[dW,List.take_zero,Nat.sub_self,List.nil_append,List.cons_append,List.append_assoc]
  simp only[List.cons.injEq,and_true]
  (repeat' apply And.intro)<;>omega
 rw[e] at tN
 exact fH rfl (aX Tryz.func134 mq (by kernel_rfl) (.inl rfl) ev (by kernel_rfl)) ⟨Ip,tN,Iq⟩ dL wq o!
theorem LU (x:FB d h l u p o n c op C f k v hl yl W D) (hk:k=2):FG d h u p o n c op C f:=by
 obtain ⟨hn,va,hf,wq,dL,gd,J3,hW,yE,hv,lB,kR,vv,gv,hD,yD,J4,tS⟩:=x
 have Ey:v<100:=by have:=hv;rw[hk] at this;exact this
 have pg:Kept p h hl:=kR
 have q1:(decide (4≤((k:Nat):Int)))=false:=(dF o!)
 have q2:(decide (2≤((k:Nat):Int)))=true:=(dT o!)
 have u3:aJ env .rem 237 false true (some (AV.int .u32 (IntKind.u32.wrap ((v:Nat):Int)))) (some (AV.int .u32 100))=some (AV.int .u32 ((v%100:Nat):Int)):=by rw[tS];exact ch (k:= .u32) (a:=v) (b:=100) o!
 have u4:aJ env .mul 237 false true (some (AV.int .u32 ((v%100:Nat):Int))) (some (AV.int .u32 2))=some (AV.int .u32 (((v%100)*2:Nat):Int)):=b_ (k:= .u32) (a:=(v%100)) (b:=2) (wrap_u32 o!)
 have u5:aJ env .quo 237 false true (some (AV.int .u32 (IntKind.u32.wrap ((v:Nat):Int)))) (some (AV.int .u32 100))=some (AV.int .u32 ((v/100:Nat):Int)):=by rw[tS];exact cg (k:= .u32) (a:=v) (b:=100) o! (wrap_u32 o!)
 have w6:IntKind.i64.wrap (((k:Nat):Int) - 1)=((k:Nat):Int) - 1:=(wrap_i64 o! o!)
 have w7:IntKind.i64.wrap (((k:Nat):Int) - 2)=((k:Nat):Int) - 2:=(wrap_i64 o! o!)
 have u8:aJ env .add 237 false true (some (AV.int .u32 (((v%100)*2:Nat):Int))) (some (AV.int .u32 1))=some (AV.int .u32 ((((v%100)*2)+1:Nat):Int)):=bJ (k:= .u32) (a:=((v%100)*2)) (b:=1) (wrap_u32 o!)
 have Vc:=fh (A:=(v%100)) o!
 have OG:=ff (A:=(v%100)) o!
 have OH:bD env (some (.slice 5)) (some (AV.slice p o n c op)) (some (AV.int .i64 (((k:Nat):Int) - 1)))=some (AV.ptr p (o+(k - 1))):=br (by kernel_rfl) (show (k - 1)<n by omega) o!
 obtain ⟨uv,uw⟩:∃hh:ah,hh=hl.put p (some (aF.cells (setFrom C o (aO .u8 (D.set (k - 1) (48+(v%100)%10)))) f false)):=⟨_,rfl⟩
 have I7:aQ env hl 5 (AV.ptr p (o+(k - 1))) (AV.int .u8 ((48+(v%100)%10:Nat):Int))=some uv:=by rw[uw];exact aU (by kernel_rfl) o! gv (show (k - 1)<D.length by omega)
 have ux:iE hl uv p (aF.cells (setFrom C o (aO .u8 (D.set (k - 1) (48+(v%100)%10)))) f false):=by rw[uw];exact bj lB gv
 have AS:=ux.1
 have Na:uv.nx=hl.nx:=by rw[uw];rfl
 obtain ⟨I8,uy⟩:∃q_,q_=D.set (k - 1) (48+(v%100)%10):=⟨_,rfl⟩
 have pj:=ux.2.1
 rw[←uy] at pj
 have I9:I8.length=n:=by rw[uy,List.length_set];exact yD
 have wx:Kept p h uv:=pg.trans ux.2.2
 have OI:bD env (some (.slice 5)) (some (AV.slice p o n c op)) (some (AV.int .i64 (((k:Nat):Int) - 2)))=some (AV.ptr p (o+(k - 2))):=br (by kernel_rfl) (show (k - 2)<n by omega) o!
 obtain ⟨D1,uz⟩:∃hh:ah,hh=uv.put p (some (aF.cells (setFrom C o (aO .u8 (I8.set (k - 2) (48+(v%100) /10)))) f false)):=⟨_,rfl⟩
 have I_:aQ env uv 5 (AV.ptr p (o+(k - 2))) (AV.int .u8 ((48+(v%100) /10:Nat):Int))=some D1:=by rw[uz];exact aU (by kernel_rfl) o! pj (show (k - 2)<I8.length by omega)
 have uA:iE uv D1 p (aF.cells (setFrom C o (aO .u8 (I8.set (k - 2) (48+(v%100) /10)))) f false):=by rw[uz];exact bj AS pj
 have I':=uA.1
 have RQ:D1.nx=uv.nx:=by rw[uz];rfl
 obtain ⟨Nb,uB⟩:∃q_,q_=I8.set (k - 2) (48+(v%100) /10):=⟨_,rfl⟩
 have uC:=uA.2.1
 rw[←uB] at uC
 have Nc:Nb.length=n:=by rw[uB,List.length_set];exact I9
 have Ja:Kept p h D1:=wx.trans uA.2.2
 have PI:(decide (0<(((k:Nat):Int) - 2)))=false:=(dF o!)
 have ev:=pk (d) ef ((AV.slice p o n c op)::(AV.int .u64 ((u:Nat):Int))::dE 165) h .normal D1 (CN 3<|LL gd<|CN 4<|VV (cq 3 false true .i64 ((k:Nat):Int) 4)<|BB q1<|CC<|VV (cq 3 false true .i64 ((k:Nat):Int) 2)<|BB q2<|CC<|VV u3<|VV u4<|CN 2<|VV u5<|CN 3<|VV (cY 3 false true w6)<|CN 2<|VV (cY 3 false true w7)<|CC<|VV u8<|VV Vc<|CC<|VV OG<|VV OH<|SS I7<|VV OI<|SS I_<|CC<|VV (cY 3 false true w7)<|CN 2<|VV (fK 3 false true .i64 (((k:Nat):Int) - 2) 0)<|BB PI<|ZZ) (by kernel_rfl)
 have e:Nb=dW u n:=by
  rw[uB,uy,yE,hD,jY (k:=(k - 2)) (m:=k) (i:=(k - 1)) (j:=(k - 2)) o! o! o! o!,hk]
  simp only[dW,List.take_zero,Nat.sub_self,List.nil_append,List.cons_append,List.append_assoc]
  simp only[List.cons.injEq,and_true]
  (repeat' apply And.intro)<;>omega
 rw[e] at uC
 exact fH rfl (aX Tryz.func134 mq (by kernel_rfl) (.inl rfl) ev (by kernel_rfl)) ⟨I',uC,Ja⟩ dL wq o!
theorem LV (x:FB d h l u p o n c op C f k v hl yl W D) (hk:k=1):FG d h u p o n c op C f:=by
 obtain ⟨hn,va,hf,wq,dL,gd,J3,hW,yE,hv,lB,kR,vv,gv,hD,yD,J4,tS⟩:=x
 have Ey:v<10:=by have:=hv;rw[hk] at this;exact this
 have pg:Kept p h hl:=kR
 have q1:(decide (4≤((k:Nat):Int)))=false:=(dF o!)
 have q2:(decide (2≤((k:Nat):Int)))=false:=(dF o!)
 have q3:(decide (0<((k:Nat):Int)))=true:=(dT o!)
 have u4:aJ env .add 237 true false (some (AV.int .u32 48)) (some (AV.int .u32 (IntKind.u32.wrap ((v:Nat):Int))))=some (AV.int .u32 ((48+v:Nat):Int)):=by rw[tS];exact bJ (k:= .u32) (a:=48) (b:=v) (wrap_u32 o!)
 have PD:bD env (some (.slice 5)) (some (AV.slice p o n c op)) (some (AV.int .i64 0))=some (AV.ptr p (o+0)):=br (by kernel_rfl) (show 0<n by omega) o!
 obtain ⟨h6,OJ⟩:∃hh:ah,hh=hl.put p (some (aF.cells (setFrom C o (aO .u8 (D.set 0 (48+v)))) f false)):=⟨_,rfl⟩
 have Ve:aQ env hl 5 (AV.ptr p (o+0)) (AV.int .u8 (IntKind.u8.wrap ((48+v:Nat):Int)))=some h6:=by rw[OJ,(wrap_u8 (n:=48+v) o!)];exact aU (by kernel_rfl) o! gv (show 0<D.length by omega)
 have Cw:iE hl h6 p (aF.cells (setFrom C o (aO .u8 (D.set 0 (48+v)))) f false):=by rw[OJ];exact bj lB gv
 have vu:=Cw.1
 have LI:h6.nx=hl.nx:=by rw[OJ];rfl
 obtain ⟨D7,OL⟩:∃q_,q_=D.set 0 (48+v):=⟨_,rfl⟩
 have yz:=Cw.2.1
 rw[←OL] at yz
 have Y':D7.length=n:=by rw[OL,List.length_set];exact yD
 have tJ:Kept p h h6:=pg.trans Cw.2.2
 have ev:=pk (d) ef ((AV.slice p o n c op)::(AV.int .u64 ((u:Nat):Int))::dE 165) h .normal h6 (CN 3<|LL gd<|CN 4<|VV (cq 3 false true .i64 ((k:Nat):Int) 4)<|BB q1<|CC<|VV (cq 3 false true .i64 ((k:Nat):Int) 2)<|BB q2<|CC<|VV (fK 3 false true .i64 ((k:Nat):Int) 0)<|BB q3<|CN 2<|VV u4<|CC<|VV PD<|SS Ve<|ZZ) (by kernel_rfl)
 have e:D7=dW u n:=by
  rw[OL,yE,hD,LK (m:=k) o! o!,hk]
  simp only[dW,List.take_zero,Nat.sub_self,List.nil_append,List.cons_append,List.append_assoc]
  simp only[List.cons.injEq,and_true]
  (repeat' apply And.intro)<;>omega
 rw[e] at yz
 exact fH rfl (aX Tryz.func134 mq (by kernel_rfl) (.inl rfl) ev (by kernel_rfl)) ⟨vu,yz,tJ⟩ dL wq o!
theorem LW (x:FB d h l u p o n c op C f k v hl yl W D) (hk:k=0):FG d h u p o n c op C f:=by
 obtain ⟨hn,va,hf,wq,dL,gd,J3,hW,yE,hv,lB,kR,vv,gv,hD,yD,J4,tS⟩:=x
 have Ey:v<1:=by have:=hv;rw[hk] at this;exact this
 have pg:Kept p h hl:=kR
 have q1:(decide (4≤((k:Nat):Int)))=false:=(dF o!)
 have q2:(decide (2≤((k:Nat):Int)))=false:=(dF o!)
 have q3:(decide (0<((k:Nat):Int)))=false:=(dF o!)
 have ev:=pk (d) ef ((AV.slice p o n c op)::(AV.int .u64 ((u:Nat):Int))::dE 165) h .normal hl (CN 3<|LL gd<|CN 4<|VV (cq 3 false true .i64 ((k:Nat):Int) 4)<|BB q1<|CC<|VV (cq 3 false true .i64 ((k:Nat):Int) 2)<|BB q2<|CC<|VV (fK 3 false true .i64 ((k:Nat):Int) 0)<|BB q3<|ZZ) (by kernel_rfl)
 have e:D=dW u n:=by
  rw[yE,hD,hk]
  simp only[dW,List.take_zero,Nat.sub_self,List.nil_append,List.cons_append,List.append_assoc]
 rw[e] at gv
 exact fH rfl (aX Tryz.func134 mq (by kernel_rfl) (.inl rfl) ev (by kernel_rfl)) ⟨lB,gv,kR⟩ dL wq o!
end
theorem Jb {d:Nat} {h:ah} {l:List Nat} {u p o n c:Nat} {op:Bool} {C:List AV} {f:TypeId} (hn:l.length=n) (va:n<2^60) (hf:o+n≤C.length) (hC:Holds .u8 C o l) (wq:h.get p=some (.cells C f false)) (hu:u<10^n) (Cp:u<18446744073709551616) (dL:Tidy h):
 ∃hk,dJ (d+1) (.fn 134) [.slice p o n c op,.int .u64 (u:Nat)] h= .ret (.tuple []) hk∧iE h hk p (.cells (setFrom C o (aO .u8 (dW u n))) f false)∧hk.nx=h.nx:=by
 have hg:h.get p=some (.cells (setFrom C o (aO .u8 (l.take n++[]))) f false):=by
  rw[List.append_nil,List.take_of_length_le o!,Oc hC];exact wq
 obtain ⟨⟨k,v⟩,hl,⟨yl,gd⟩,J3,W,hW,yE,hv,lB,kR,vv,gv⟩:=E5 (d:=d) (hs:=h) (ds:=[]) (rc:= .no) (c:=c) (op:=op) (U:=u) hn va hf n n u h [] o! (by simp) (by simp) hu Cp dL (Kept.refl _ _) rfl hg (fun k=>(((AV.slice p o n c op)::(AV.int .u64 ((u:Nat):Int))::AV.undef::AV.undef::(AV.int .i64 ((n:Nat):Int))::AV.undef::AV.undef::AV.undef::AV.undef::AV.undef::AV.undef::AV.undef::AV.undef::AV.undef::AV.undef::AV.undef::AV.undef::(AV.slice p o n c op)::(AV.int .i64 ((n:Nat):Int))::dE 148):List AV).getD k AV.undef)
 simp only at J3 hW yE hv gd gv
 obtain ⟨D,hD⟩:∃D,D=l.take k++W:=⟨_,rfl⟩
 rw[←hD] at gv
 have yD:D.length=n:=by rw[hD];simp;omega
 have J4:v<10000000:=Nat.lt_of_lt_of_le hv (Nat.pow_le_pow_right o! (show k≤7 by omega))
 have tS:IntKind.u32.wrap ((v:Nat):Int)=((v:Nat):Int):=wrap_u32 o!
 have fb:FB d h l u p o n c op C f k v hl yl W D:=⟨hn,va,hf,wq,dL,gd,by omega,by omega,yE,hv,lB,kR,vv,gv,hD,yD,J4,tS⟩
 have:k=7∨k=6∨k=5∨k=4∨k=3∨k=2∨k=1∨k=0:=by omega
 rcases this with q | q | q | q | q | q | q | q
 · exact LN fb q
 · exact LO fb q
 · exact LP fb q
 · exact LQ fb q
 · exact LS fb q
 · exact LU fb q
 · exact LV fb q
 · exact LW fb q
end
end Go.Proofs.aP
