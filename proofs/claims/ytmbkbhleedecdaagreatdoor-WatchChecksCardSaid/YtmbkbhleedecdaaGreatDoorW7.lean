import Derived.Test.YtmbkbhleedecdaaGreatDoorA8
import Derived.Test.YtmbkbhleedecdaaGreatDoorW0
import Derived.Test.YtmbkbhleedecdaaGreatDoorEnv
import Derived.Test.YtmbkbhleedecdaaGreatDoorW6
namespace Go.Proofs.aM
open Go.Proofs Ab
noncomputable section
set_option maxRecDepth 100000
set_option maxHeartbeats 4000000
set_option linter.unusedVariables false
set_option linter.unusedSimpArgs false
def iO:Code:=(Tryz.f104.body).getD .skip
theorem tu:Tryz.f104.body=some iO:=by kernel_rfl
def tv:Code:=(b5 iO).getD 0 .skip
def Mk:List UInt8:=[48,48,48,49,48,50,48,51,48,52,48,53,48,54,48,55,48,56,48,57,49,48,49,49,49,50,49,51,49,52,49,53,49,54,49,55,49,56,49,57,50,48,50,49,50,50,50,51,50,52,50,53,50,54,50,55,50,56,50,57,51,48,51,49,51,50,51,51,51,52,51,53,51,54,51,55,51,56,51,57,52,48,52,49,52,50,52,51,52,52,52,53,52,54,52,55,52,56,52,57,53,48,53,49,53,50,53,51,53,52,53,53,53,54,53,55,53,56,53,57,54,48,54,49,54,50,54,51,54,52,54,53,54,54,54,55,54,56,54,57,55,48,55,49,55,50,55,51,55,52,55,53,55,54,55,55,55,56,55,57,56,48,56,49,56,50,56,51,56,52,56,53,56,54,56,55,56,56,56,57,57,48,57,49,57,50,57,51,57,52,57,53,57,54,57,55,57,56,57,57]
theorem wrap_u32 {n:Nat} (h:n<4294967296):IntKind.u32.wrap (n:Int)=(n:Int):=by
 show (if (false&&decide ((n:Int)%2^32≥2^31))=true then (n:Int)%2^32 - 2^32 else (n:Int)%2^32)=_
 rw[if_neg (by simp)]
 omega
theorem wrap_u8 {n:Nat} (h:n<256):IntKind.u8.wrap (n:Int)=(n:Int):=by
 show (if (false&&decide ((n:Int)%2^8≥2^7))=true then (n:Int)%2^8 - 2^8 else (n:Int)%2^8)=_
 rw[if_neg (by simp)]
 omega
theorem dt {E:Env} {t:TypeId} {c d:Bool} {k:IntKind} {a b:Nat} (h:k.wrap ((a+b:Nat):Int)=((a+b:Nat):Int)):bu E .add t c d (some (.int k (a:Int))) (some (.int k (b:Int)))=some (.int k ((a+b:Nat):Int)):=vB (by rw[←h];congr 1)
theorem eI {E:Env} {t:TypeId} {c d:Bool} {k:IntKind} {a b:Nat} (h:k.wrap ((a*b:Nat):Int)=((a*b:Nat):Int)):bu E .mul t c d (some (.int k (a:Int))) (some (.int k (b:Int)))=some (.int k ((a*b:Nat):Int)):=Bt (by rw[←h];congr 1)
theorem ff {E:Env} {t:TypeId} {c d:Bool} {k:IntKind} {a b:Nat} (hb:b≠0) (h:k.wrap ((a/b:Nat):Int)=((a/b:Nat):Int)):bu E .quo t c d (some (.int k (a:Int))) (some (.int k (b:Int)))=some (.int k ((a/b:Nat):Int)):=Bu o! (by rw[←Int.ofNat_tdiv];exact h)
theorem fh {E:Env} {t:TypeId} {c d:Bool} {k:IntKind} {a b:Nat} (hb:b≠0):bu E .rem t c d (some (.int k (a:Int))) (some (.int k (b:Int)))=some (.int k ((a%b:Nat):Int)):=Bv o! (by rw[←Int.ofNat_tmod])
theorem IC:((List.range 100).all fun A=>decide (Mk[A*2]? =some (UInt8.ofNat (48+A/10)))&&decide (Mk[A*2+1]? =some (UInt8.ofNat (48+A%10))))=true:=by decide+kernel
theorem ke {A:Nat} (hA:A<100):j9 env (some .string) (some (.str Mk)) (some (.int .u32 ((A*2:Nat):Int)))=some (.int .u8 ((48+A/10:Nat):Int)):=by
 have h:=List.all_eq_true.1 IC A (List.mem_range.2 hA)
 simp only[Bool.and_eq_true,decide_eq_true_eq] at h
 simp only[j9]
 rw[if_pos o!,Int.toNat_natCast,h.1]
 simp only[Option.map_some,UInt8.toNat_ofNat']
 rw[Nat.mod_eq_of_lt o!]
theorem kf {A:Nat} (hA:A<100):j9 env (some .string) (some (.str Mk)) (some (.int .u32 ((A*2+1:Nat):Int)))=some (.int .u8 ((48+A%10:Nat):Int)):=by
 have h:=List.all_eq_true.1 IC A (List.mem_range.2 hA)
 simp only[Bool.and_eq_true,decide_eq_true_eq] at h
 simp only[j9]
 rw[if_pos o!,Int.toNat_natCast,h.2]
 simp only[Option.map_some,UInt8.toNat_ofNat']
 rw[Nat.mod_eq_of_lt o!]
def dW:Nat→Nat→List Nat
 | _,0=> []
 | u,n+1=>dW (u/10) n++[48+u%10]
theorem pW:∀(n u:Nat),(dW u n).length=n
 | 0,_=>rfl
 | n+1,u=>by simp [dW,pW n]
def d8 (u:Nat):List Nat:=[48+u%100000000/10000/100/10,48+u%100000000/10000/100%10,48+u%100000000/10000%100/10,48+u%100000000/10000%100%10,48+u%100000000%10000/100/10,48+u%100000000%10000/100%10,48+u%100000000%10000%100/10,48+u%100000000%10000%100%10]
theorem dW8 (u m:Nat):dW u (m+8)=dW (u/100000000) m++d8 u:=by
 have e:u/10/10/10/10/10/10/10/10=u/100000000:=by omega
 simp only[dW,d8,List.append_assoc,List.cons_append,List.nil_append]
 rw[e]
 congr 1
 simp only[List.cons.injEq,and_true]
 (repeat' apply And.intro)<;>omega
theorem qg {l W:List Nat} {k m i j a b:Nat} (hm:m=k+2) (hi:i=k+1) (hj:k=j) (hl:m≤l.length):((l.take m++W).set i a).set j b=l.take k++b::a::W:=by
 subst hm hi hj
 rw[Ef o!,Ef o!]
 have h1:(l.take k).length=k:=by simp;omega
 apply List.ext_getElem?
 intro q
 simp only[List.append_assoc,List.cons_append,List.nil_append]
 rw[List.set_append_right _ _ o!,List.set_append_right _ _ o!,h1,Nat.sub_self,show k+1 - k=1 by omega]
 rfl
theorem Uq {l W:List Nat} {m a:Nat} (hm:m=1) (hl:m≤l.length):(l.take m++W).set 0 a=a::W:=by
 subst hm
 cases l with
 | nil=>simp at hl
 | cons x l=>rfl
theorem acA {l W:List Nat} {k a b c d e f g x:Nat} (hk:8≤k) (hl:k≤l.length):((((((((l.take k++W).set (k - 1) a).set (k - 2) b).set (k - 3) c).set (k - 4) d).set (k - 5) e).set (k - 6) f).set (k - 7) g).set (k - 8) x=l.take (k - 8)++(x::g::f::e::d::c::b::a::W):=by
 rw[qg (k:=k - 2) o! o! rfl hl,qg (k:=k - 4) o! o! rfl o!,qg (k:=k - 6) o! o! rfl o!,qg (k:=k - 8) o! o! rfl o!]
theorem Ny {d:Nat} {hs:ax} {ds:List ny} {rc:RC} {l:List Nat} {p o n c:Nat} {op:Bool} {C:List AV} {f:TypeId} {U:Nat} (hn:l.length=n) (C4:n<2^60) (hf:o+n≤C.length) (m:Nat):
 ∀(k u:Nat) (h:ax) (W:List Nat),k<8*m+8→W.length+k=n→dW U n=dW u k++W→u<10^k→u<18446744073709551616→Tidy h→Kept p hs h→h.nx=hs.nx→h.get p=some (.cells (setFrom C o (bE .u8 (l.take k++W))) f false)→∀x:Nat→AV,
  ∃(a:Nat×Nat) (h':ax),(∃y:Nat→AV,Ev env (cT d) (.loop tv) ⟨((AV.slice p o n c op)::(AV.int .u64 ((u:Nat):Int))::(x 2)::(x 3)::(AV.int .i64 ((k:Nat):Int))::rx x 5 162 []),h,ds,rc⟩ (.exit 0) ⟨((AV.slice p o n c op)::(AV.int .u64 ((a.2:Nat):Int))::(y 2)::(y 3)::(AV.int .i64 ((a.1:Nat):Int))::rx y 5 162 []),h',ds,rc⟩)∧a.1<8∧∃W,W.length+a.1=n∧dW U n=dW a.2 a.1++W∧a.2<10^a.1∧Tidy h'∧Kept p hs h'∧h'.nx=hs.nx∧h'.get p=some (.cells (setFrom C o (bE .u8 (l.take a.1++W))) f false):=by
 induction m with
 | zero=>
   intro k u h W hk hW hd hu KB ca kp hx hg x
   have q1:(decide (8≤((k:Nat):Int)))=false:=(dF o!)
   have ev:=pk_ (d) tv ((AV.slice p o n c op)::(AV.int .u64 ((u:Nat):Int))::(x 2)::(x 3)::(AV.int .i64 ((k:Nat):Int))::rx x 5 162 []) h ds rc (.exit 0) h (CC<|VV (b9 3 false true .i64 ((k:Nat):Int) 8)<|BB q1<|ZZ) (by kernel_rfl)
   exact ⟨(k,u),h,Dk (Ev.out ev) (by kernel_rfl),by omega,W,hW,hd,hu,ca,kp,hx,hg⟩
 | succ m ih=>
   intro k u h W hk hW hd hu KB ca kp hx hg x
   by_cases q:k<8
   · have q1:(decide (8≤((k:Nat):Int)))=false:=(dF o!)
     have ev:=pk_ (d) tv ((AV.slice p o n c op)::(AV.int .u64 ((u:Nat):Int))::(x 2)::(x 3)::(AV.int .i64 ((k:Nat):Int))::rx x 5 162 []) h ds rc (.exit 0) h (CC<|VV (b9 3 false true .i64 ((k:Nat):Int) 8)<|BB q1<|ZZ) (by kernel_rfl)
     exact ⟨(k,u),h,Dk (Ev.out ev) (by kernel_rfl),by omega,W,hW,hd,hu,ca,kp,hx,hg⟩
   · obtain ⟨D,hD⟩:∃D,D=l.take k++W:=⟨_,rfl⟩
     rw[←hD] at hg
     have FY:D.length=n:=by rw[hD];simp;omega
     have ex:IntKind.u32.wrap ((u%100000000:Nat):Int)=((u%100000000:Nat):Int):=wrap_u32 o!
     have q1:(decide (8≤((k:Nat):Int)))=true:=(dT o!)
     have u2:bu env .rem 150 false true (some (AV.int .u64 ((u:Nat):Int))) (some (AV.int .u64 100000000))=some (AV.int .u64 ((u%100000000:Nat):Int)):=Ib (a:=u) (b:=100000000) o!
     have u3:bu env .quo 150 false true (some (AV.int .u64 ((u:Nat):Int))) (some (AV.int .u64 100000000))=some (AV.int .u64 ((u/100000000:Nat):Int)):=Ia (a:=u) (b:=100000000) o! o!
     have u4:bu env .quo 158 false true (some (AV.int .u32 (IntKind.u32.wrap ((u%100000000:Nat):Int)))) (some (AV.int .u32 10000))=some (AV.int .u32 (((u%100000000) /10000:Nat):Int)):=by rw[ex];exact ff (k:= .u32) (a:=(u%100000000)) (b:=10000) o! (wrap_u32 o!)
     have u5:bu env .rem 158 false true (some (AV.int .u32 (IntKind.u32.wrap ((u%100000000:Nat):Int)))) (some (AV.int .u32 10000))=some (AV.int .u32 (((u%100000000)%10000:Nat):Int)):=by rw[ex];exact fh (k:= .u32) (a:=(u%100000000)) (b:=10000) o!
     have u6:bu env .quo 158 false true (some (AV.int .u32 (((u%100000000)%10000:Nat):Int))) (some (AV.int .u32 100))=some (AV.int .u32 ((((u%100000000)%10000) /100:Nat):Int)):=ff (k:= .u32) (a:=((u%100000000)%10000)) (b:=100) o! (wrap_u32 o!)
     have u7:bu env .mul 158 false true (some (AV.int .u32 ((((u%100000000)%10000) /100:Nat):Int))) (some (AV.int .u32 2))=some (AV.int .u32 (((((u%100000000)%10000) /100)*2:Nat):Int)):=eI (k:= .u32) (a:=(((u%100000000)%10000) /100)) (b:=2) (wrap_u32 o!)
     have u8:bu env .rem 158 false true (some (AV.int .u32 (((u%100000000)%10000:Nat):Int))) (some (AV.int .u32 100))=some (AV.int .u32 ((((u%100000000)%10000)%100:Nat):Int)):=fh (k:= .u32) (a:=((u%100000000)%10000)) (b:=100) o!
     have u9:bu env .mul 158 false true (some (AV.int .u32 ((((u%100000000)%10000)%100:Nat):Int))) (some (AV.int .u32 2))=some (AV.int .u32 (((((u%100000000)%10000)%100)*2:Nat):Int)):=eI (k:= .u32) (a:=(((u%100000000)%10000)%100)) (b:=2) (wrap_u32 o!)
     have zJ:bu env .quo 158 false true (some (AV.int .u32 (((u%100000000) /10000:Nat):Int))) (some (AV.int .u32 100))=some (AV.int .u32 ((((u%100000000) /10000) /100:Nat):Int)):=ff (k:= .u32) (a:=((u%100000000) /10000)) (b:=100) o! (wrap_u32 o!)
     have At:bu env .mul 158 false true (some (AV.int .u32 ((((u%100000000) /10000) /100:Nat):Int))) (some (AV.int .u32 2))=some (AV.int .u32 (((((u%100000000) /10000) /100)*2:Nat):Int)):=eI (k:= .u32) (a:=(((u%100000000) /10000) /100)) (b:=2) (wrap_u32 o!)
     have Uo:bu env .rem 158 false true (some (AV.int .u32 (((u%100000000) /10000:Nat):Int))) (some (AV.int .u32 100))=some (AV.int .u32 ((((u%100000000) /10000)%100:Nat):Int)):=fh (k:= .u32) (a:=((u%100000000) /10000)) (b:=100) o!
     have Ul:bu env .mul 158 false true (some (AV.int .u32 ((((u%100000000) /10000)%100:Nat):Int))) (some (AV.int .u32 2))=some (AV.int .u32 (((((u%100000000) /10000)%100)*2:Nat):Int)):=eI (k:= .u32) (a:=(((u%100000000) /10000)%100)) (b:=2) (wrap_u32 o!)
     have w14:IntKind.i64.wrap (((k:Nat):Int) - 1)=((k:Nat):Int) - 1:=(wrap_i64 o! o!)
     have w15:IntKind.i64.wrap (((k:Nat):Int) - 2)=((k:Nat):Int) - 2:=(wrap_i64 o! o!)
     have u16:bu env .add 158 false true (some (AV.int .u32 (((((u%100000000)%10000)%100)*2:Nat):Int))) (some (AV.int .u32 1))=some (AV.int .u32 ((((((u%100000000)%10000)%100)*2)+1:Nat):Int)):=dt (k:= .u32) (a:=((((u%100000000)%10000)%100)*2)) (b:=1) (wrap_u32 o!)
     have acB:=kf (A:=(((u%100000000)%10000)%100)) o!
     have acC:=ke (A:=(((u%100000000)%10000)%100)) o!
     have XE:b8 env (some (.slice 5)) (some (AV.slice p o n c op)) (some (AV.int .i64 (((k:Nat):Int) - 1)))=some (AV.ptr p (o+(k - 1))):=cx (by kernel_rfl) (show (k - 1)<n by omega) o!
     obtain ⟨GC,B'⟩:∃hh:ax,hh=h.put p (some (aK.cells (setFrom C o (bE .u8 (D.set (k - 1) (48+(((u%100000000)%10000)%100)%10)))) f false)):=⟨_,rfl⟩
     have Q1:bY env h 5 (AV.ptr p (o+(k - 1))) (AV.int .u8 ((48+(((u%100000000)%10000)%100)%10:Nat):Int))=some GC:=by rw[B'];exact bU (by kernel_rfl) o! hg (show (k - 1)<D.length by omega)
     have Ca:n5 h GC p (aK.cells (setFrom C o (bE .u8 (D.set (k - 1) (48+(((u%100000000)%10000)%100)%10)))) f false):=by rw[B'];exact cq ca hg
     have ID:=Ca.1
     have aap:GC.nx=h.nx:=by rw[B'];rfl
     obtain ⟨VP,Cb⟩:∃q_,q_=D.set (k - 1) (48+(((u%100000000)%10000)%100)%10):=⟨_,rfl⟩
     have Cc:=Ca.2.1
     rw[←Cb] at Cc
     have VQ:VP.length=n:=by rw[Cb,List.length_set];exact FY
     have IE:Kept p h GC:=Ca.2.2
     have acD:b8 env (some (.slice 5)) (some (AV.slice p o n c op)) (some (AV.int .i64 (((k:Nat):Int) - 2)))=some (AV.ptr p (o+(k - 2))):=cx (by kernel_rfl) (show (k - 2)<n by omega) o!
     obtain ⟨VS,Q2⟩:∃hh:ax,hh=GC.put p (some (aK.cells (setFrom C o (bE .u8 (VP.set (k - 2) (48+(((u%100000000)%10000)%100) /10)))) f false)):=⟨_,rfl⟩
     have aaq:bY env GC 5 (AV.ptr p (o+(k - 2))) (AV.int .u8 ((48+(((u%100000000)%10000)%100) /10:Nat):Int))=some VS:=by rw[Q2];exact bU (by kernel_rfl) o! Cc (show (k - 2)<VP.length by omega)
     have Q3:n5 GC VS p (aK.cells (setFrom C o (bE .u8 (VP.set (k - 2) (48+(((u%100000000)%10000)%100) /10)))) f false):=by rw[Q2];exact cq ID Cc
     have aar:=Q3.1
     have adM:VS.nx=GC.nx:=by rw[Q2];rfl
     obtain ⟨D24,Q4⟩:∃q_,q_=VP.set (k - 2) (48+(((u%100000000)%10000)%100) /10):=⟨_,rfl⟩
     have Q5:=Q3.2.1
     rw[←Q4] at Q5
     have aas:D24.length=n:=by rw[Q4,List.length_set];exact VQ
     have aat:Kept p h VS:=IE.trans Q3.2.2
     have w25:IntKind.i64.wrap (((k:Nat):Int) - 3)=((k:Nat):Int) - 3:=(wrap_i64 o! o!)
     have w26:IntKind.i64.wrap (((k:Nat):Int) - 4)=((k:Nat):Int) - 4:=(wrap_i64 o! o!)
     have u27:bu env .add 158 false true (some (AV.int .u32 (((((u%100000000)%10000) /100)*2:Nat):Int))) (some (AV.int .u32 1))=some (AV.int .u32 ((((((u%100000000)%10000) /100)*2)+1:Nat):Int)):=dt (k:= .u32) (a:=((((u%100000000)%10000) /100)*2)) (b:=1) (wrap_u32 o!)
     have acE:=kf (A:=(((u%100000000)%10000) /100)) o!
     have acF:=ke (A:=(((u%100000000)%10000) /100)) o!
     have acG:b8 env (some (.slice 5)) (some (AV.slice p o n c op)) (some (AV.int .i64 (((k:Nat):Int) - 3)))=some (AV.ptr p (o+(k - 3))):=cx (by kernel_rfl) (show (k - 3)<n by omega) o!
     obtain ⟨VT,Q6⟩:∃hh:ax,hh=VS.put p (some (aK.cells (setFrom C o (bE .u8 (D24.set (k - 3) (48+(((u%100000000)%10000) /100)%10)))) f false)):=⟨_,rfl⟩
     have aau:bY env VS 5 (AV.ptr p (o+(k - 3))) (AV.int .u8 ((48+(((u%100000000)%10000) /100)%10:Nat):Int))=some VT:=by rw[Q6];exact bU (by kernel_rfl) o! Q5 (show (k - 3)<D24.length by omega)
     have Q7:n5 VS VT p (aK.cells (setFrom C o (bE .u8 (D24.set (k - 3) (48+(((u%100000000)%10000) /100)%10)))) f false):=by rw[Q6];exact cq aar Q5
     have aav:=Q7.1
     have adN:VT.nx=VS.nx:=by rw[Q6];rfl
     obtain ⟨D32,Q8⟩:∃q_,q_=D24.set (k - 3) (48+(((u%100000000)%10000) /100)%10):=⟨_,rfl⟩
     have Q9:=Q7.2.1
     rw[←Q8] at Q9
     have aaw:D32.length=n:=by rw[Q8,List.length_set];exact aas
     have aax:Kept p h VT:=aat.trans Q7.2.2
     have XF:b8 env (some (.slice 5)) (some (AV.slice p o n c op)) (some (AV.int .i64 (((k:Nat):Int) - 4)))=some (AV.ptr p (o+(k - 4))):=cx (by kernel_rfl) (show (k - 4)<n by omega) o!
     obtain ⟨Ml,Cd⟩:∃hh:ax,hh=VT.put p (some (aK.cells (setFrom C o (bE .u8 (D32.set (k - 4) (48+(((u%100000000)%10000) /100) /10)))) f false)):=⟨_,rfl⟩
     have Q_:bY env VT 5 (AV.ptr p (o+(k - 4))) (AV.int .u8 ((48+(((u%100000000)%10000) /100) /10:Nat):Int))=some Ml:=by rw[Cd];exact bU (by kernel_rfl) o! Q9 (show (k - 4)<D32.length by omega)
     have Ce:n5 VT Ml p (aK.cells (setFrom C o (bE .u8 (D32.set (k - 4) (48+(((u%100000000)%10000) /100) /10)))) f false):=by rw[Cd];exact cq aav Q9
     have Q':=Ce.1
     have aay:Ml.nx=VT.nx:=by rw[Cd];rfl
     obtain ⟨VU,Cf⟩:∃q_,q_=D32.set (k - 4) (48+(((u%100000000)%10000) /100) /10):=⟨_,rfl⟩
     have Cg:=Ce.2.1
     rw[←Cf] at Cg
     have VW:VU.length=n:=by rw[Cf,List.length_set];exact aaw
     have Ra:Kept p h Ml:=aax.trans Ce.2.2
     have w36:IntKind.i64.wrap (((k:Nat):Int) - 5)=((k:Nat):Int) - 5:=(wrap_i64 o! o!)
     have w37:IntKind.i64.wrap (((k:Nat):Int) - 6)=((k:Nat):Int) - 6:=(wrap_i64 o! o!)
     have u38:bu env .add 158 false true (some (AV.int .u32 (((((u%100000000) /10000)%100)*2:Nat):Int))) (some (AV.int .u32 1))=some (AV.int .u32 ((((((u%100000000) /10000)%100)*2)+1:Nat):Int)):=dt (k:= .u32) (a:=((((u%100000000) /10000)%100)*2)) (b:=1) (wrap_u32 o!)
     have acH:=kf (A:=(((u%100000000) /10000)%100)) o!
     have acI:=ke (A:=(((u%100000000) /10000)%100)) o!
     have acJ:b8 env (some (.slice 5)) (some (AV.slice p o n c op)) (some (AV.int .i64 (((k:Nat):Int) - 5)))=some (AV.ptr p (o+(k - 5))):=cx (by kernel_rfl) (show (k - 5)<n by omega) o!
     obtain ⟨VX,Rb⟩:∃hh:ax,hh=Ml.put p (some (aK.cells (setFrom C o (bE .u8 (VU.set (k - 5) (48+(((u%100000000) /10000)%100)%10)))) f false)):=⟨_,rfl⟩
     have aaz:bY env Ml 5 (AV.ptr p (o+(k - 5))) (AV.int .u8 ((48+(((u%100000000) /10000)%100)%10:Nat):Int))=some VX:=by rw[Rb];exact bU (by kernel_rfl) o! Cg (show (k - 5)<VU.length by omega)
     have Rc:n5 Ml VX p (aK.cells (setFrom C o (bE .u8 (VU.set (k - 5) (48+(((u%100000000) /10000)%100)%10)))) f false):=by rw[Rb];exact cq Q' Cg
     have aaA:=Rc.1
     have adO:VX.nx=Ml.nx:=by rw[Rb];rfl
     obtain ⟨D43,Rd⟩:∃q_,q_=VU.set (k - 5) (48+(((u%100000000) /10000)%100)%10):=⟨_,rfl⟩
     have Re:=Rc.2.1
     rw[←Rd] at Re
     have aaB:D43.length=n:=by rw[Rd,List.length_set];exact VW
     have aaC:Kept p h VX:=Ra.trans Rc.2.2
     have acK:b8 env (some (.slice 5)) (some (AV.slice p o n c op)) (some (AV.int .i64 (((k:Nat):Int) - 6)))=some (AV.ptr p (o+(k - 6))):=cx (by kernel_rfl) (show (k - 6)<n by omega) o!
     obtain ⟨VY,Rf⟩:∃hh:ax,hh=VX.put p (some (aK.cells (setFrom C o (bE .u8 (D43.set (k - 6) (48+(((u%100000000) /10000)%100) /10)))) f false)):=⟨_,rfl⟩
     have aaD:bY env VX 5 (AV.ptr p (o+(k - 6))) (AV.int .u8 ((48+(((u%100000000) /10000)%100) /10:Nat):Int))=some VY:=by rw[Rf];exact bU (by kernel_rfl) o! Re (show (k - 6)<D43.length by omega)
     have Rg:n5 VX VY p (aK.cells (setFrom C o (bE .u8 (D43.set (k - 6) (48+(((u%100000000) /10000)%100) /10)))) f false):=by rw[Rf];exact cq aaA Re
     have aaE:=Rg.1
     have adP:VY.nx=VX.nx:=by rw[Rf];rfl
     obtain ⟨D46,Ri⟩:∃q_,q_=D43.set (k - 6) (48+(((u%100000000) /10000)%100) /10):=⟨_,rfl⟩
     have Rj:=Rg.2.1
     rw[←Ri] at Rj
     have aaF:D46.length=n:=by rw[Ri,List.length_set];exact aaB
     have aaG:Kept p h VY:=aaC.trans Rg.2.2
     have w47:IntKind.i64.wrap (((k:Nat):Int) - 7)=((k:Nat):Int) - 7:=(wrap_i64 o! o!)
     have w48:IntKind.i64.wrap (((k:Nat):Int) - 8)=((k:Nat):Int) - 8:=(wrap_i64 o! o!)
     have u49:bu env .add 158 false true (some (AV.int .u32 (((((u%100000000) /10000) /100)*2:Nat):Int))) (some (AV.int .u32 1))=some (AV.int .u32 ((((((u%100000000) /10000) /100)*2)+1:Nat):Int)):=dt (k:= .u32) (a:=((((u%100000000) /10000) /100)*2)) (b:=1) (wrap_u32 o!)
     have acL:=kf (A:=(((u%100000000) /10000) /100)) o!
     have acM:=ke (A:=(((u%100000000) /10000) /100)) o!
     have acN:b8 env (some (.slice 5)) (some (AV.slice p o n c op)) (some (AV.int .i64 (((k:Nat):Int) - 7)))=some (AV.ptr p (o+(k - 7))):=cx (by kernel_rfl) (show (k - 7)<n by omega) o!
     obtain ⟨VZ,Rl⟩:∃hh:ax,hh=VY.put p (some (aK.cells (setFrom C o (bE .u8 (D46.set (k - 7) (48+(((u%100000000) /10000) /100)%10)))) f false)):=⟨_,rfl⟩
     have aaH:bY env VY 5 (AV.ptr p (o+(k - 7))) (AV.int .u8 ((48+(((u%100000000) /10000) /100)%10:Nat):Int))=some VZ:=by rw[Rl];exact bU (by kernel_rfl) o! Rj (show (k - 7)<D46.length by omega)
     have Rm:n5 VY VZ p (aK.cells (setFrom C o (bE .u8 (D46.set (k - 7) (48+(((u%100000000) /10000) /100)%10)))) f false):=by rw[Rl];exact cq aaE Rj
     have aaI:=Rm.1
     have adQ:VZ.nx=VY.nx:=by rw[Rl];rfl
     obtain ⟨D54,Rn⟩:∃q_,q_=D46.set (k - 7) (48+(((u%100000000) /10000) /100)%10):=⟨_,rfl⟩
     have Ro:=Rm.2.1
     rw[←Rn] at Ro
     have aaJ:D54.length=n:=by rw[Rn,List.length_set];exact aaF
     have aaK:Kept p h VZ:=aaG.trans Rm.2.2
     have acO:b8 env (some (.slice 5)) (some (AV.slice p o n c op)) (some (AV.int .i64 (((k:Nat):Int) - 8)))=some (AV.ptr p (o+(k - 8))):=cx (by kernel_rfl) (show (k - 8)<n by omega) o!
     obtain ⟨Y8,Rp⟩:∃hh:ax,hh=VZ.put p (some (aK.cells (setFrom C o (bE .u8 (D54.set (k - 8) (48+(((u%100000000) /10000) /100) /10)))) f false)):=⟨_,rfl⟩
     have aaL:bY env VZ 5 (AV.ptr p (o+(k - 8))) (AV.int .u8 ((48+(((u%100000000) /10000) /100) /10:Nat):Int))=some Y8:=by rw[Rp];exact bU (by kernel_rfl) o! Ro (show (k - 8)<D54.length by omega)
     have Rq:n5 VZ Y8 p (aK.cells (setFrom C o (bE .u8 (D54.set (k - 8) (48+(((u%100000000) /10000) /100) /10)))) f false):=by rw[Rp];exact cq aaI Ro
     have aaM:=Rq.1
     have adR:Y8.nx=VZ.nx:=by rw[Rp];rfl
     obtain ⟨D57,Rr⟩:∃q_,q_=D54.set (k - 8) (48+(((u%100000000) /10000) /100) /10):=⟨_,rfl⟩
     have V0:=Rq.2.1
     rw[←Rr] at V0
     have adS:D57.length=n:=by rw[Rr,List.length_set];exact aaJ
     have aaN:Kept p h Y8:=aaK.trans Rq.2.2
     have ev:=pk_ (d) tv ((AV.slice p o n c op)::(AV.int .u64 ((u:Nat):Int))::(x 2)::(x 3)::(AV.int .i64 ((k:Nat):Int))::rx x 5 162 []) h ds rc .normal Y8 (CC<|VV (b9 3 false true .i64 ((k:Nat):Int) 8)<|BB q1<|CC<|VV u2<|CN 3<|VV u3<|CN 2<|VV u4<|CC<|VV u5<|CN 3<|VV u6<|VV u7<|CC<|VV u8<|VV u9<|CN 3<|VV zJ<|VV At<|CC<|VV Uo<|VV Ul<|CN 4<|VV (gD 3 false true w14)<|CN 2<|VV (gD 3 false true w15)<|CC<|VV u16<|VV acB<|CC<|VV acC<|VV XE<|SS Q1<|VV acD<|SS aaq<|CN 2<|VV (gD 3 false true w25)<|CN 2<|VV (gD 3 false true w26)<|CC<|VV u27<|VV acE<|CC<|VV acF<|VV acG<|SS aau<|VV XF<|SS Q_<|CN 2<|VV (gD 3 false true w36)<|CN 2<|VV (gD 3 false true w37)<|CC<|VV u38<|VV acH<|CC<|VV acI<|VV acJ<|SS aaz<|VV acK<|SS aaD<|CN 2<|VV (gD 3 false true w47)<|CN 2<|VV (gD 3 false true w48)<|CC<|VV u49<|VV acL<|CC<|VV acM<|VV acN<|SS aaH<|VV acO<|SS aaL<|CC<|VV (gD 3 false true w48)<|CC<|ZZ) (by kernel_rfl)
     have e8:dW u k=dW (u/100000000) (k - 8)++d8 u:=by
      have:=dW8 u (k - 8)
      rw[show k - 8+8=k by omega] at this
      exact this
     have eL:D57=l.take (k - 8)++(d8 u++W):=by
      rw[Rr,Rn,Ri,Rd,Cf,Q8,Q4,Cb,hD,acA o! o!]
      rfl
     have g1:=V0
     rw[eL] at g1
     have hu8:u/100000000<10^(k - 8):=by
      rw[Nat.div_lt_iff_lt_mul o!,show (100000000:Nat)=10^8 by rfl,←Nat.pow_add,show k - 8+8=k by omega]
      exact hu
     refine FX (tin:=fun x=>((AV.slice p o n c op)::(AV.int .u64 ((u/100000000:Nat):Int))::(x 2)::(x 3)::(AV.int .i64 ((k - 8:Nat):Int))::rx x 5 162 [])) ev (by rw[show ((k:Nat):Int) - 8=((k - 8:Nat):Int) by omega];kernel_rfl) fun x=>ih (k - 8) (u/100000000) Y8 _ o! ?_ ?_ hu8 o! aaM (kp.trans aaN) o! g1 x
     · rw[List.length_append,show (d8 u).length=8 from rfl];omega
     · rw[hd,e8,List.append_assoc]
section
variable {d k v:Nat} {h hl:ax} {l W D:List Nat} {u p o n c:Nat} {op:Bool} {C:List AV} {f:TypeId} {yl:Nat→AV}
structure FB (d:Nat) (h:ax) (l:List Nat) (u p o n c:Nat) (op:Bool) (C:List AV) (f:TypeId) (k v:Nat) (hl:ax) (yl:Nat→AV) (W D:List Nat):Prop where
 hn:l.length=n
 C4:n<2^60
 hf:o+n≤C.length
 Eg:h.get p=some (.cells C f false)
 ca:Tidy h
 lM:Ev env (cT d) (.loop tv) ⟨((AV.slice p o n c op)::(AV.int .u64 ((u:Nat):Int))::AV.undef::AV.undef::(AV.int .i64 ((n:Nat):Int))::AV.undef::AV.undef::AV.undef::AV.undef::AV.undef::AV.undef::AV.undef::AV.undef::AV.undef::AV.undef::AV.undef::AV.undef::(AV.slice p o n c op)::(AV.int .i64 ((n:Nat):Int))::jg 148),h,[],.no⟩ (.exit 0) ⟨((AV.slice p o n c op)::(AV.int .u64 ((v:Nat):Int))::(yl 2)::(yl 3)::(AV.int .i64 ((k:Nat):Int))::rx yl 5 162 []),hl,[],.no⟩
 SN:k<8
 hW:W.length+k=n
 FZ:dW u n=dW v k++W
 hv:v<10^k
 r5:Tidy hl
 rD:Kept p h hl
 Dt:hl.nx=h.nx
 lS:hl.get p=some (.cells (setFrom C o (bE .u8 D)) f false)
 hD:D=l.take k++W
 FY:D.length=n
 SO:v<10000000
 Ch:IntKind.u32.wrap ((v:Nat):Int)=((v:Nat):Int)
def FG (d:Nat) (h:ax) (u p o n c:Nat) (op:Bool) (C:List AV) (f:TypeId):Prop:=∃hk,cT (d+1) (.fn 104) [.slice p o n c op,.int .u64 (u:Nat)] h= .ret (.tuple []) hk∧n5 h hk p (.cells (setFrom C o (bE .u8 (dW u n))) f false)∧hk.nx=h.nx
theorem Ur (x:FB d h l u p o n c op C f k v hl yl W D) (hk:k=7):FG d h u p o n c op C f:=by
 obtain ⟨hn,C4,hf,Eg,ca,lM,SN,hW,FZ,hv,r5,rD,Dt,lS,hD,FY,SO,Ch⟩:=x
 have MV:v<10000000:=by have:=hv;rw[hk] at this;exact this
 have xP:Kept p h hl:=rD
 have q1:(decide (4≤((k:Nat):Int)))=true:=(dT o!)
 have u2:bu env .rem 158 false true (some (AV.int .u32 (IntKind.u32.wrap ((v:Nat):Int)))) (some (AV.int .u32 10000))=some (AV.int .u32 ((v%10000:Nat):Int)):=by rw[Ch];exact fh (k:= .u32) (a:=v) (b:=10000) o!
 have u3:bu env .quo 158 false true (some (AV.int .u32 (IntKind.u32.wrap ((v:Nat):Int)))) (some (AV.int .u32 10000))=some (AV.int .u32 ((v/10000:Nat):Int)):=by rw[Ch];exact ff (k:= .u32) (a:=v) (b:=10000) o! (wrap_u32 o!)
 have u4:bu env .quo 158 false true (some (AV.int .u32 ((v%10000:Nat):Int))) (some (AV.int .u32 100))=some (AV.int .u32 (((v%10000) /100:Nat):Int)):=ff (k:= .u32) (a:=(v%10000)) (b:=100) o! (wrap_u32 o!)
 have u5:bu env .mul 158 false true (some (AV.int .u32 (((v%10000) /100:Nat):Int))) (some (AV.int .u32 2))=some (AV.int .u32 ((((v%10000) /100)*2:Nat):Int)):=eI (k:= .u32) (a:=((v%10000) /100)) (b:=2) (wrap_u32 o!)
 have u6:bu env .rem 158 false true (some (AV.int .u32 ((v%10000:Nat):Int))) (some (AV.int .u32 100))=some (AV.int .u32 (((v%10000)%100:Nat):Int)):=fh (k:= .u32) (a:=(v%10000)) (b:=100) o!
 have u7:bu env .mul 158 false true (some (AV.int .u32 (((v%10000)%100:Nat):Int))) (some (AV.int .u32 2))=some (AV.int .u32 ((((v%10000)%100)*2:Nat):Int)):=eI (k:= .u32) (a:=((v%10000)%100)) (b:=2) (wrap_u32 o!)
 have w8:IntKind.i64.wrap (((k:Nat):Int) - 1)=((k:Nat):Int) - 1:=(wrap_i64 o! o!)
 have w9:IntKind.i64.wrap (((k:Nat):Int) - 2)=((k:Nat):Int) - 2:=(wrap_i64 o! o!)
 have zJ:bu env .add 158 false true (some (AV.int .u32 ((((v%10000)%100)*2:Nat):Int))) (some (AV.int .u32 1))=some (AV.int .u32 (((((v%10000)%100)*2)+1:Nat):Int)):=dt (k:= .u32) (a:=(((v%10000)%100)*2)) (b:=1) (wrap_u32 o!)
 have KC:=kf (A:=((v%10000)%100)) o!
 have KD:=ke (A:=((v%10000)%100)) o!
 have KE:b8 env (some (.slice 5)) (some (AV.slice p o n c op)) (some (AV.int .i64 (((k:Nat):Int) - 1)))=some (AV.ptr p (o+(k - 1))):=cx (by kernel_rfl) (show (k - 1)<n by omega) o!
 obtain ⟨o6,oi⟩:∃hh:ax,hh=hl.put p (some (aK.cells (setFrom C o (bE .u8 (D.set (k - 1) (48+((v%10000)%100)%10)))) f false)):=⟨_,rfl⟩
 have vh:bY env hl 5 (AV.ptr p (o+(k - 1))) (AV.int .u8 ((48+((v%10000)%100)%10:Nat):Int))=some o6:=by rw[oi];exact bU (by kernel_rfl) o! lS (show (k - 1)<D.length by omega)
 have om:n5 hl o6 p (aK.cells (setFrom C o (bE .u8 (D.set (k - 1) (48+((v%10000)%100)%10)))) f false):=by rw[oi];exact cq r5 lS
 have oo:=om.1
 have IF:o6.nx=hl.nx:=by rw[oi];rfl
 obtain ⟨Ci,oq⟩:∃q_,q_=D.set (k - 1) (48+((v%10000)%100)%10):=⟨_,rfl⟩
 have kq:=om.2.1
 rw[←oq] at kq
 have Cj:Ci.length=n:=by rw[oq,List.length_set];exact FY
 have pC:Kept p h o6:=xP.trans om.2.2
 have F0:b8 env (some (.slice 5)) (some (AV.slice p o n c op)) (some (AV.int .i64 (((k:Nat):Int) - 2)))=some (AV.ptr p (o+(k - 2))):=cx (by kernel_rfl) (show (k - 2)<n by omega) o!
 obtain ⟨mq,ot⟩:∃hh:ax,hh=o6.put p (some (aK.cells (setFrom C o (bE .u8 (Ci.set (k - 2) (48+((v%10000)%100) /10)))) f false)):=⟨_,rfl⟩
 have Ck:bY env o6 5 (AV.ptr p (o+(k - 2))) (AV.int .u8 ((48+((v%10000)%100) /10:Nat):Int))=some mq:=by rw[ot];exact bU (by kernel_rfl) o! kq (show (k - 2)<Ci.length by omega)
 have ou:n5 o6 mq p (aK.cells (setFrom C o (bE .u8 (Ci.set (k - 2) (48+((v%10000)%100) /10)))) f false):=by rw[ot];exact cq oo kq
 have qx:=ou.1
 have Rs:mq.nx=o6.nx:=by rw[ot];rfl
 obtain ⟨Cl,ov⟩:∃q_,q_=Ci.set (k - 2) (48+((v%10000)%100) /10):=⟨_,rfl⟩
 have ow:=ou.2.1
 rw[←ov] at ow
 have Cm:Cl.length=n:=by rw[ov,List.length_set];exact Cj
 have pD:Kept p h mq:=pC.trans ou.2.2
 have XG:IntKind.i64.wrap (((k:Nat):Int) - 3)=((k:Nat):Int) - 3:=(wrap_i64 o! o!)
 have Rt:IntKind.i64.wrap (((k:Nat):Int) - 4)=((k:Nat):Int) - 4:=(wrap_i64 o! o!)
 have KF:bu env .add 158 false true (some (AV.int .u32 ((((v%10000) /100)*2:Nat):Int))) (some (AV.int .u32 1))=some (AV.int .u32 (((((v%10000) /100)*2)+1:Nat):Int)):=dt (k:= .u32) (a:=(((v%10000) /100)*2)) (b:=1) (wrap_u32 o!)
 have KG:=kf (A:=((v%10000) /100)) o!
 have KH:=ke (A:=((v%10000) /100)) o!
 have KI:b8 env (some (.slice 5)) (some (AV.slice p o n c op)) (some (AV.int .i64 (((k:Nat):Int) - 3)))=some (AV.ptr p (o+(k - 3))):=cx (by kernel_rfl) (show (k - 3)<n by omega) o!
 obtain ⟨tw,ox⟩:∃hh:ax,hh=mq.put p (some (aK.cells (setFrom C o (bE .u8 (Cl.set (k - 3) (48+((v%10000) /100)%10)))) f false)):=⟨_,rfl⟩
 have Cn:bY env mq 5 (AV.ptr p (o+(k - 3))) (AV.int .u8 ((48+((v%10000) /100)%10:Nat):Int))=some tw:=by rw[ox];exact bU (by kernel_rfl) o! ow (show (k - 3)<Cl.length by omega)
 have oA:n5 mq tw p (aK.cells (setFrom C o (bE .u8 (Cl.set (k - 3) (48+((v%10000) /100)%10)))) f false):=by rw[ox];exact cq qx ow
 have Co:=oA.1
 have Ru:tw.nx=mq.nx:=by rw[ox];rfl
 obtain ⟨Cp,oB⟩:∃q_,q_=Cl.set (k - 3) (48+((v%10000) /100)%10):=⟨_,rfl⟩
 have oC:=oA.2.1
 rw[←oB] at oC
 have Cq:Cp.length=n:=by rw[oB,List.length_set];exact Cm
 have Cr:Kept p h tw:=pD.trans oA.2.2
 have KJ:b8 env (some (.slice 5)) (some (AV.slice p o n c op)) (some (AV.int .i64 (((k:Nat):Int) - 4)))=some (AV.ptr p (o+(k - 4))):=cx (by kernel_rfl) (show (k - 4)<n by omega) o!
 obtain ⟨vi,oD⟩:∃hh:ax,hh=tw.put p (some (aK.cells (setFrom C o (bE .u8 (Cp.set (k - 4) (48+((v%10000) /100) /10)))) f false)):=⟨_,rfl⟩
 have Cs:bY env tw 5 (AV.ptr p (o+(k - 4))) (AV.int .u8 ((48+((v%10000) /100) /10:Nat):Int))=some vi:=by rw[oD];exact bU (by kernel_rfl) o! oC (show (k - 4)<Cp.length by omega)
 have oE:n5 tw vi p (aK.cells (setFrom C o (bE .u8 (Cp.set (k - 4) (48+((v%10000) /100) /10)))) f false):=by rw[oD];exact cq Co oC
 have Ct:=oE.1
 have Rv:vi.nx=tw.nx:=by rw[oD];rfl
 obtain ⟨Eh,oF⟩:∃q_,q_=Cp.set (k - 4) (48+((v%10000) /100) /10):=⟨_,rfl⟩
 have oG:=oE.2.1
 rw[←oF] at oG
 have Ei:Eh.length=n:=by rw[oF,List.length_set];exact Cq
 have Cu:Kept p h vi:=Cr.trans oE.2.2
 have XH:(decide (2≤(((k:Nat):Int) - 4)))=true:=(dT o!)
 have u31:bu env .rem 158 false true (some (AV.int .u32 ((v/10000:Nat):Int))) (some (AV.int .u32 100))=some (AV.int .u32 (((v/10000)%100:Nat):Int)):=fh (k:= .u32) (a:=(v/10000)) (b:=100) o!
 have u32:bu env .mul 158 false true (some (AV.int .u32 (((v/10000)%100:Nat):Int))) (some (AV.int .u32 2))=some (AV.int .u32 ((((v/10000)%100)*2:Nat):Int)):=eI (k:= .u32) (a:=((v/10000)%100)) (b:=2) (wrap_u32 o!)
 have u33:bu env .quo 158 false true (some (AV.int .u32 ((v/10000:Nat):Int))) (some (AV.int .u32 100))=some (AV.int .u32 (((v/10000) /100:Nat):Int)):=ff (k:= .u32) (a:=(v/10000)) (b:=100) o! (wrap_u32 o!)
 have w34:IntKind.i64.wrap ((((k:Nat):Int) - 4) - 1)=(((k:Nat):Int) - 4) - 1:=(wrap_i64 o! o!)
 have w35:IntKind.i64.wrap ((((k:Nat):Int) - 4) - 2)=(((k:Nat):Int) - 4) - 2:=(wrap_i64 o! o!)
 have u36:bu env .add 158 false true (some (AV.int .u32 ((((v/10000)%100)*2:Nat):Int))) (some (AV.int .u32 1))=some (AV.int .u32 (((((v/10000)%100)*2)+1:Nat):Int)):=dt (k:= .u32) (a:=(((v/10000)%100)*2)) (b:=1) (wrap_u32 o!)
 have XI:=kf (A:=((v/10000)%100)) o!
 have XJ:=ke (A:=((v/10000)%100)) o!
 have XK:b8 env (some (.slice 5)) (some (AV.slice p o n c op)) (some (AV.int .i64 ((((k:Nat):Int) - 4) - 1)))=some (AV.ptr p (o+(k - 5))):=cx (by kernel_rfl) (show (k - 5)<n by omega) o!
 obtain ⟨IG,Cv⟩:∃hh:ax,hh=vi.put p (some (aK.cells (setFrom C o (bE .u8 (Eh.set (k - 5) (48+((v/10000)%100)%10)))) f false)):=⟨_,rfl⟩
 have Rw:bY env vi 5 (AV.ptr p (o+(k - 5))) (AV.int .u8 ((48+((v/10000)%100)%10:Nat):Int))=some IG:=by rw[Cv];exact bU (by kernel_rfl) o! oG (show (k - 5)<Eh.length by omega)
 have Cw:n5 vi IG p (aK.cells (setFrom C o (bE .u8 (Eh.set (k - 5) (48+((v/10000)%100)%10)))) f false):=by rw[Cv];exact cq Ct oG
 have Rx:=Cw.1
 have aaO:IG.nx=vi.nx:=by rw[Cv];rfl
 obtain ⟨Ry,Cx⟩:∃q_,q_=Eh.set (k - 5) (48+((v/10000)%100)%10):=⟨_,rfl⟩
 have Cy:=Cw.2.1
 rw[←Cx] at Cy
 have Rz:Ry.length=n:=by rw[Cx,List.length_set];exact Ei
 have RA:Kept p h IG:=Cu.trans Cw.2.2
 have XL:b8 env (some (.slice 5)) (some (AV.slice p o n c op)) (some (AV.int .i64 ((((k:Nat):Int) - 4) - 2)))=some (AV.ptr p (o+(k - 6))):=cx (by kernel_rfl) (show (k - 6)<n by omega) o!
 obtain ⟨Mm,Cz⟩:∃hh:ax,hh=IG.put p (some (aK.cells (setFrom C o (bE .u8 (Ry.set (k - 6) (48+((v/10000)%100) /10)))) f false)):=⟨_,rfl⟩
 have RB:bY env IG 5 (AV.ptr p (o+(k - 6))) (AV.int .u8 ((48+((v/10000)%100) /10:Nat):Int))=some Mm:=by rw[Cz];exact bU (by kernel_rfl) o! Cy (show (k - 6)<Ry.length by omega)
 have CA:n5 IG Mm p (aK.cells (setFrom C o (bE .u8 (Ry.set (k - 6) (48+((v/10000)%100) /10)))) f false):=by rw[Cz];exact cq Rx Cy
 have RD:=CA.1
 have aaP:Mm.nx=IG.nx:=by rw[Cz];rfl
 obtain ⟨V1,CB⟩:∃q_,q_=Ry.set (k - 6) (48+((v/10000)%100) /10):=⟨_,rfl⟩
 have CD:=CA.2.1
 rw[←CB] at CD
 have V2:V1.length=n:=by rw[CB,List.length_set];exact Rz
 have RE:Kept p h Mm:=RA.trans CA.2.2
 have q45:(decide (0<((((k:Nat):Int) - 4) - 2)))=true:=(dT o!)
 have u46:bu env .add 158 true false (some (AV.int .u32 48)) (some (AV.int .u32 (((v/10000) /100:Nat):Int)))=some (AV.int .u32 ((48+((v/10000) /100):Nat):Int)):=dt (k:= .u32) (a:=48) (b:=((v/10000) /100)) (wrap_u32 o!)
 have acP:b8 env (some (.slice 5)) (some (AV.slice p o n c op)) (some (AV.int .i64 0))=some (AV.ptr p (o+0)):=cx (by kernel_rfl) (show 0<n by omega) o!
 obtain ⟨h48,RG⟩:∃hh:ax,hh=Mm.put p (some (aK.cells (setFrom C o (bE .u8 (V1.set 0 (48+((v/10000) /100))))) f false)):=⟨_,rfl⟩
 have aaQ:bY env Mm 5 (AV.ptr p (o+0)) (AV.int .u8 (IntKind.u8.wrap ((48+((v/10000) /100):Nat):Int)))=some h48:=by rw[RG,(wrap_u8 (n:=48+((v/10000) /100)) o!)];exact bU (by kernel_rfl) o! CD (show 0<V1.length by omega)
 have RH:n5 Mm h48 p (aK.cells (setFrom C o (bE .u8 (V1.set 0 (48+((v/10000) /100))))) f false):=by rw[RG];exact cq RD CD
 have aaR:=RH.1
 have adT:h48.nx=Mm.nx:=by rw[RG];rfl
 obtain ⟨D49,RI⟩:∃q_,q_=V1.set 0 (48+((v/10000) /100)):=⟨_,rfl⟩
 have RJ:=RH.2.1
 rw[←RI] at RJ
 have adU:D49.length=n:=by rw[RI,List.length_set];exact V2
 have aaS:Kept p h h48:=RE.trans RH.2.2
 have ev:=pk (d) iO ((AV.slice p o n c op)::(AV.int .u64 ((u:Nat):Int))::jg 165) h .normal h48 (CN 3<|LL lM<|CN 4<|VV (b9 3 false true .i64 ((k:Nat):Int) 4)<|BB q1<|CC<|VV u2<|CN 2<|VV u3<|CN 2<|VV u4<|VV u5<|CC<|VV u6<|VV u7<|CN 4<|VV (gD 3 false true w8)<|CN 2<|VV (gD 3 false true w9)<|CC<|VV zJ<|VV KC<|CC<|VV KD<|VV KE<|SS vh<|VV F0<|SS Ck<|CN 2<|VV (gD 3 false true XG)<|CN 2<|VV (gD 3 false true Rt)<|CC<|VV KF<|VV KG<|CC<|VV KH<|VV KI<|SS Cn<|VV KJ<|SS Cs<|CC<|VV (gD 3 false true Rt)<|CN 2<|VV (b9 3 false true .i64 (((k:Nat):Int) - 4) 2)<|BB XH<|CC<|VV u31<|VV u32<|CN 2<|VV u33<|CN 3<|VV (gD 3 false true w34)<|CN 2<|VV (gD 3 false true w35)<|CC<|VV u36<|VV XI<|CC<|VV XJ<|VV XK<|SS Rw<|VV XL<|SS RB<|CC<|VV (gD 3 false true w35)<|CN 2<|VV (b7 3 false true .i64 ((((k:Nat):Int) - 4) - 2) 0)<|BB q45<|CN 2<|VV u46<|CC<|VV acP<|SS aaQ<|ZZ) (by kernel_rfl)
 have e:D49=dW u n:=by
  rw[RI,CB,Cx,oF,oB,ov,oq,FZ,hD,qg (k:=(k - 2)) (m:=k) (i:=(k - 1)) (j:=(k - 2)) o! o! o! o!,qg (k:=(k - 4)) (m:=(k - 2)) (i:=(k - 3)) (j:=(k - 4)) o! o! o! o!,qg (k:=(k - 6)) (m:=(k - 4)) (i:=(k - 5)) (j:=(k - 6)) o! o! o! o!,Uq (m:=(k - 6)) o! o!,hk]
  simp only[dW,List.take_zero,Nat.sub_self,List.nil_append,List.cons_append,List.append_assoc]
  simp only[List.cons.injEq,and_true]
  (repeat' apply And.intro)<;>omega
 rw[e] at RJ
 exact kS rfl (aI Tryz.func104 tu (by kernel_rfl) (.inl rfl) ev (by kernel_rfl)) ⟨aaR,RJ,aaS⟩ ca Eg o!
theorem Us (x:FB d h l u p o n c op C f k v hl yl W D) (hk:k=6):FG d h u p o n c op C f:=by
 obtain ⟨hn,C4,hf,Eg,ca,lM,SN,hW,FZ,hv,r5,rD,Dt,lS,hD,FY,SO,Ch⟩:=x
 have MV:v<1000000:=by have:=hv;rw[hk] at this;exact this
 have xP:Kept p h hl:=rD
 have q1:(decide (4≤((k:Nat):Int)))=true:=(dT o!)
 have u2:bu env .rem 158 false true (some (AV.int .u32 (IntKind.u32.wrap ((v:Nat):Int)))) (some (AV.int .u32 10000))=some (AV.int .u32 ((v%10000:Nat):Int)):=by rw[Ch];exact fh (k:= .u32) (a:=v) (b:=10000) o!
 have u3:bu env .quo 158 false true (some (AV.int .u32 (IntKind.u32.wrap ((v:Nat):Int)))) (some (AV.int .u32 10000))=some (AV.int .u32 ((v/10000:Nat):Int)):=by rw[Ch];exact ff (k:= .u32) (a:=v) (b:=10000) o! (wrap_u32 o!)
 have u4:bu env .quo 158 false true (some (AV.int .u32 ((v%10000:Nat):Int))) (some (AV.int .u32 100))=some (AV.int .u32 (((v%10000) /100:Nat):Int)):=ff (k:= .u32) (a:=(v%10000)) (b:=100) o! (wrap_u32 o!)
 have u5:bu env .mul 158 false true (some (AV.int .u32 (((v%10000) /100:Nat):Int))) (some (AV.int .u32 2))=some (AV.int .u32 ((((v%10000) /100)*2:Nat):Int)):=eI (k:= .u32) (a:=((v%10000) /100)) (b:=2) (wrap_u32 o!)
 have u6:bu env .rem 158 false true (some (AV.int .u32 ((v%10000:Nat):Int))) (some (AV.int .u32 100))=some (AV.int .u32 (((v%10000)%100:Nat):Int)):=fh (k:= .u32) (a:=(v%10000)) (b:=100) o!
 have u7:bu env .mul 158 false true (some (AV.int .u32 (((v%10000)%100:Nat):Int))) (some (AV.int .u32 2))=some (AV.int .u32 ((((v%10000)%100)*2:Nat):Int)):=eI (k:= .u32) (a:=((v%10000)%100)) (b:=2) (wrap_u32 o!)
 have w8:IntKind.i64.wrap (((k:Nat):Int) - 1)=((k:Nat):Int) - 1:=(wrap_i64 o! o!)
 have w9:IntKind.i64.wrap (((k:Nat):Int) - 2)=((k:Nat):Int) - 2:=(wrap_i64 o! o!)
 have zJ:bu env .add 158 false true (some (AV.int .u32 ((((v%10000)%100)*2:Nat):Int))) (some (AV.int .u32 1))=some (AV.int .u32 (((((v%10000)%100)*2)+1:Nat):Int)):=dt (k:= .u32) (a:=(((v%10000)%100)*2)) (b:=1) (wrap_u32 o!)
 have KC:=kf (A:=((v%10000)%100)) o!
 have KD:=ke (A:=((v%10000)%100)) o!
 have KE:b8 env (some (.slice 5)) (some (AV.slice p o n c op)) (some (AV.int .i64 (((k:Nat):Int) - 1)))=some (AV.ptr p (o+(k - 1))):=cx (by kernel_rfl) (show (k - 1)<n by omega) o!
 obtain ⟨o6,oi⟩:∃hh:ax,hh=hl.put p (some (aK.cells (setFrom C o (bE .u8 (D.set (k - 1) (48+((v%10000)%100)%10)))) f false)):=⟨_,rfl⟩
 have vh:bY env hl 5 (AV.ptr p (o+(k - 1))) (AV.int .u8 ((48+((v%10000)%100)%10:Nat):Int))=some o6:=by rw[oi];exact bU (by kernel_rfl) o! lS (show (k - 1)<D.length by omega)
 have om:n5 hl o6 p (aK.cells (setFrom C o (bE .u8 (D.set (k - 1) (48+((v%10000)%100)%10)))) f false):=by rw[oi];exact cq r5 lS
 have oo:=om.1
 have IF:o6.nx=hl.nx:=by rw[oi];rfl
 obtain ⟨Ci,oq⟩:∃q_,q_=D.set (k - 1) (48+((v%10000)%100)%10):=⟨_,rfl⟩
 have kq:=om.2.1
 rw[←oq] at kq
 have Cj:Ci.length=n:=by rw[oq,List.length_set];exact FY
 have pC:Kept p h o6:=xP.trans om.2.2
 have F0:b8 env (some (.slice 5)) (some (AV.slice p o n c op)) (some (AV.int .i64 (((k:Nat):Int) - 2)))=some (AV.ptr p (o+(k - 2))):=cx (by kernel_rfl) (show (k - 2)<n by omega) o!
 obtain ⟨mq,ot⟩:∃hh:ax,hh=o6.put p (some (aK.cells (setFrom C o (bE .u8 (Ci.set (k - 2) (48+((v%10000)%100) /10)))) f false)):=⟨_,rfl⟩
 have Ck:bY env o6 5 (AV.ptr p (o+(k - 2))) (AV.int .u8 ((48+((v%10000)%100) /10:Nat):Int))=some mq:=by rw[ot];exact bU (by kernel_rfl) o! kq (show (k - 2)<Ci.length by omega)
 have ou:n5 o6 mq p (aK.cells (setFrom C o (bE .u8 (Ci.set (k - 2) (48+((v%10000)%100) /10)))) f false):=by rw[ot];exact cq oo kq
 have qx:=ou.1
 have Rs:mq.nx=o6.nx:=by rw[ot];rfl
 obtain ⟨Cl,ov⟩:∃q_,q_=Ci.set (k - 2) (48+((v%10000)%100) /10):=⟨_,rfl⟩
 have ow:=ou.2.1
 rw[←ov] at ow
 have Cm:Cl.length=n:=by rw[ov,List.length_set];exact Cj
 have pD:Kept p h mq:=pC.trans ou.2.2
 have XG:IntKind.i64.wrap (((k:Nat):Int) - 3)=((k:Nat):Int) - 3:=(wrap_i64 o! o!)
 have Rt:IntKind.i64.wrap (((k:Nat):Int) - 4)=((k:Nat):Int) - 4:=(wrap_i64 o! o!)
 have KF:bu env .add 158 false true (some (AV.int .u32 ((((v%10000) /100)*2:Nat):Int))) (some (AV.int .u32 1))=some (AV.int .u32 (((((v%10000) /100)*2)+1:Nat):Int)):=dt (k:= .u32) (a:=(((v%10000) /100)*2)) (b:=1) (wrap_u32 o!)
 have KG:=kf (A:=((v%10000) /100)) o!
 have KH:=ke (A:=((v%10000) /100)) o!
 have KI:b8 env (some (.slice 5)) (some (AV.slice p o n c op)) (some (AV.int .i64 (((k:Nat):Int) - 3)))=some (AV.ptr p (o+(k - 3))):=cx (by kernel_rfl) (show (k - 3)<n by omega) o!
 obtain ⟨tw,ox⟩:∃hh:ax,hh=mq.put p (some (aK.cells (setFrom C o (bE .u8 (Cl.set (k - 3) (48+((v%10000) /100)%10)))) f false)):=⟨_,rfl⟩
 have Cn:bY env mq 5 (AV.ptr p (o+(k - 3))) (AV.int .u8 ((48+((v%10000) /100)%10:Nat):Int))=some tw:=by rw[ox];exact bU (by kernel_rfl) o! ow (show (k - 3)<Cl.length by omega)
 have oA:n5 mq tw p (aK.cells (setFrom C o (bE .u8 (Cl.set (k - 3) (48+((v%10000) /100)%10)))) f false):=by rw[ox];exact cq qx ow
 have Co:=oA.1
 have Ru:tw.nx=mq.nx:=by rw[ox];rfl
 obtain ⟨Cp,oB⟩:∃q_,q_=Cl.set (k - 3) (48+((v%10000) /100)%10):=⟨_,rfl⟩
 have oC:=oA.2.1
 rw[←oB] at oC
 have Cq:Cp.length=n:=by rw[oB,List.length_set];exact Cm
 have Cr:Kept p h tw:=pD.trans oA.2.2
 have KJ:b8 env (some (.slice 5)) (some (AV.slice p o n c op)) (some (AV.int .i64 (((k:Nat):Int) - 4)))=some (AV.ptr p (o+(k - 4))):=cx (by kernel_rfl) (show (k - 4)<n by omega) o!
 obtain ⟨vi,oD⟩:∃hh:ax,hh=tw.put p (some (aK.cells (setFrom C o (bE .u8 (Cp.set (k - 4) (48+((v%10000) /100) /10)))) f false)):=⟨_,rfl⟩
 have Cs:bY env tw 5 (AV.ptr p (o+(k - 4))) (AV.int .u8 ((48+((v%10000) /100) /10:Nat):Int))=some vi:=by rw[oD];exact bU (by kernel_rfl) o! oC (show (k - 4)<Cp.length by omega)
 have oE:n5 tw vi p (aK.cells (setFrom C o (bE .u8 (Cp.set (k - 4) (48+((v%10000) /100) /10)))) f false):=by rw[oD];exact cq Co oC
 have Ct:=oE.1
 have Rv:vi.nx=tw.nx:=by rw[oD];rfl
 obtain ⟨Eh,oF⟩:∃q_,q_=Cp.set (k - 4) (48+((v%10000) /100) /10):=⟨_,rfl⟩
 have oG:=oE.2.1
 rw[←oF] at oG
 have Ei:Eh.length=n:=by rw[oF,List.length_set];exact Cq
 have Cu:Kept p h vi:=Cr.trans oE.2.2
 have XH:(decide (2≤(((k:Nat):Int) - 4)))=true:=(dT o!)
 have u31:bu env .rem 158 false true (some (AV.int .u32 ((v/10000:Nat):Int))) (some (AV.int .u32 100))=some (AV.int .u32 (((v/10000)%100:Nat):Int)):=fh (k:= .u32) (a:=(v/10000)) (b:=100) o!
 have u32:bu env .mul 158 false true (some (AV.int .u32 (((v/10000)%100:Nat):Int))) (some (AV.int .u32 2))=some (AV.int .u32 ((((v/10000)%100)*2:Nat):Int)):=eI (k:= .u32) (a:=((v/10000)%100)) (b:=2) (wrap_u32 o!)
 have u33:bu env .quo 158 false true (some (AV.int .u32 ((v/10000:Nat):Int))) (some (AV.int .u32 100))=some (AV.int .u32 (((v/10000) /100:Nat):Int)):=ff (k:= .u32) (a:=(v/10000)) (b:=100) o! (wrap_u32 o!)
 have w34:IntKind.i64.wrap ((((k:Nat):Int) - 4) - 1)=(((k:Nat):Int) - 4) - 1:=(wrap_i64 o! o!)
 have w35:IntKind.i64.wrap ((((k:Nat):Int) - 4) - 2)=(((k:Nat):Int) - 4) - 2:=(wrap_i64 o! o!)
 have u36:bu env .add 158 false true (some (AV.int .u32 ((((v/10000)%100)*2:Nat):Int))) (some (AV.int .u32 1))=some (AV.int .u32 (((((v/10000)%100)*2)+1:Nat):Int)):=dt (k:= .u32) (a:=(((v/10000)%100)*2)) (b:=1) (wrap_u32 o!)
 have XI:=kf (A:=((v/10000)%100)) o!
 have XJ:=ke (A:=((v/10000)%100)) o!
 have XK:b8 env (some (.slice 5)) (some (AV.slice p o n c op)) (some (AV.int .i64 ((((k:Nat):Int) - 4) - 1)))=some (AV.ptr p (o+(k - 5))):=cx (by kernel_rfl) (show (k - 5)<n by omega) o!
 obtain ⟨IG,Cv⟩:∃hh:ax,hh=vi.put p (some (aK.cells (setFrom C o (bE .u8 (Eh.set (k - 5) (48+((v/10000)%100)%10)))) f false)):=⟨_,rfl⟩
 have Rw:bY env vi 5 (AV.ptr p (o+(k - 5))) (AV.int .u8 ((48+((v/10000)%100)%10:Nat):Int))=some IG:=by rw[Cv];exact bU (by kernel_rfl) o! oG (show (k - 5)<Eh.length by omega)
 have Cw:n5 vi IG p (aK.cells (setFrom C o (bE .u8 (Eh.set (k - 5) (48+((v/10000)%100)%10)))) f false):=by rw[Cv];exact cq Ct oG
 have Rx:=Cw.1
 have aaO:IG.nx=vi.nx:=by rw[Cv];rfl
 obtain ⟨Ry,Cx⟩:∃q_,q_=Eh.set (k - 5) (48+((v/10000)%100)%10):=⟨_,rfl⟩
 have Cy:=Cw.2.1
 rw[←Cx] at Cy
 have Rz:Ry.length=n:=by rw[Cx,List.length_set];exact Ei
 have RA:Kept p h IG:=Cu.trans Cw.2.2
 have XL:b8 env (some (.slice 5)) (some (AV.slice p o n c op)) (some (AV.int .i64 ((((k:Nat):Int) - 4) - 2)))=some (AV.ptr p (o+(k - 6))):=cx (by kernel_rfl) (show (k - 6)<n by omega) o!
 obtain ⟨Mm,Cz⟩:∃hh:ax,hh=IG.put p (some (aK.cells (setFrom C o (bE .u8 (Ry.set (k - 6) (48+((v/10000)%100) /10)))) f false)):=⟨_,rfl⟩
 have RB:bY env IG 5 (AV.ptr p (o+(k - 6))) (AV.int .u8 ((48+((v/10000)%100) /10:Nat):Int))=some Mm:=by rw[Cz];exact bU (by kernel_rfl) o! Cy (show (k - 6)<Ry.length by omega)
 have CA:n5 IG Mm p (aK.cells (setFrom C o (bE .u8 (Ry.set (k - 6) (48+((v/10000)%100) /10)))) f false):=by rw[Cz];exact cq Rx Cy
 have RD:=CA.1
 have aaP:Mm.nx=IG.nx:=by rw[Cz];rfl
 obtain ⟨V1,CB⟩:∃q_,q_=Ry.set (k - 6) (48+((v/10000)%100) /10):=⟨_,rfl⟩
 have CD:=CA.2.1
 rw[←CB] at CD
 have V2:V1.length=n:=by rw[CB,List.length_set];exact Rz
 have RE:Kept p h Mm:=RA.trans CA.2.2
 have q45:(decide (0<((((k:Nat):Int) - 4) - 2)))=false:=(dF o!)
 have ev:=pk (d) iO ((AV.slice p o n c op)::(AV.int .u64 ((u:Nat):Int))::jg 165) h .normal Mm (CN 3<|LL lM<|CN 4<|VV (b9 3 false true .i64 ((k:Nat):Int) 4)<|BB q1<|CC<|VV u2<|CN 2<|VV u3<|CN 2<|VV u4<|VV u5<|CC<|VV u6<|VV u7<|CN 4<|VV (gD 3 false true w8)<|CN 2<|VV (gD 3 false true w9)<|CC<|VV zJ<|VV KC<|CC<|VV KD<|VV KE<|SS vh<|VV F0<|SS Ck<|CN 2<|VV (gD 3 false true XG)<|CN 2<|VV (gD 3 false true Rt)<|CC<|VV KF<|VV KG<|CC<|VV KH<|VV KI<|SS Cn<|VV KJ<|SS Cs<|CC<|VV (gD 3 false true Rt)<|CN 2<|VV (b9 3 false true .i64 (((k:Nat):Int) - 4) 2)<|BB XH<|CC<|VV u31<|VV u32<|CN 2<|VV u33<|CN 3<|VV (gD 3 false true w34)<|CN 2<|VV (gD 3 false true w35)<|CC<|VV u36<|VV XI<|CC<|VV XJ<|VV XK<|SS Rw<|VV XL<|SS RB<|CC<|VV (gD 3 false true w35)<|CN 2<|VV (b7 3 false true .i64 ((((k:Nat):Int) - 4) - 2) 0)<|BB q45<|ZZ) (by kernel_rfl)
 have e:V1=dW u n:=by
  rw[CB,Cx,oF,oB,ov,oq,FZ,hD,qg (k:=(k - 2)) (m:=k) (i:=(k - 1)) (j:=(k - 2)) o! o! o! o!,qg (k:=(k - 4)) (m:=(k - 2)) (i:=(k - 3)) (j:=(k - 4)) o! o! o! o!,qg (k:=(k - 6)) (m:=(k - 4)) (i:=(k - 5)) (j:=(k - 6)) o! o! o! o!,hk]
  simp only[dW,List.take_zero,Nat.sub_self,List.nil_append,List.cons_append,List.append_assoc]
  simp only[List.cons.injEq,and_true]
  (repeat' apply And.intro)<;>omega
 rw[e] at CD
 exact kS rfl (aI Tryz.func104 tu (by kernel_rfl) (.inl rfl) ev (by kernel_rfl)) ⟨RD,CD,RE⟩ ca Eg o!
theorem Ut (x:FB d h l u p o n c op C f k v hl yl W D) (hk:k=5):FG d h u p o n c op C f:=by
 obtain ⟨hn,C4,hf,Eg,ca,lM,SN,hW,FZ,hv,r5,rD,Dt,lS,hD,FY,SO,Ch⟩:=x
 have MV:v<100000:=by have:=hv;rw[hk] at this;exact this
 have xP:Kept p h hl:=rD
 have q1:(decide (4≤((k:Nat):Int)))=true:=(dT o!)
 have u2:bu env .rem 158 false true (some (AV.int .u32 (IntKind.u32.wrap ((v:Nat):Int)))) (some (AV.int .u32 10000))=some (AV.int .u32 ((v%10000:Nat):Int)):=by rw[Ch];exact fh (k:= .u32) (a:=v) (b:=10000) o!
 have u3:bu env .quo 158 false true (some (AV.int .u32 (IntKind.u32.wrap ((v:Nat):Int)))) (some (AV.int .u32 10000))=some (AV.int .u32 ((v/10000:Nat):Int)):=by rw[Ch];exact ff (k:= .u32) (a:=v) (b:=10000) o! (wrap_u32 o!)
 have u4:bu env .quo 158 false true (some (AV.int .u32 ((v%10000:Nat):Int))) (some (AV.int .u32 100))=some (AV.int .u32 (((v%10000) /100:Nat):Int)):=ff (k:= .u32) (a:=(v%10000)) (b:=100) o! (wrap_u32 o!)
 have u5:bu env .mul 158 false true (some (AV.int .u32 (((v%10000) /100:Nat):Int))) (some (AV.int .u32 2))=some (AV.int .u32 ((((v%10000) /100)*2:Nat):Int)):=eI (k:= .u32) (a:=((v%10000) /100)) (b:=2) (wrap_u32 o!)
 have u6:bu env .rem 158 false true (some (AV.int .u32 ((v%10000:Nat):Int))) (some (AV.int .u32 100))=some (AV.int .u32 (((v%10000)%100:Nat):Int)):=fh (k:= .u32) (a:=(v%10000)) (b:=100) o!
 have u7:bu env .mul 158 false true (some (AV.int .u32 (((v%10000)%100:Nat):Int))) (some (AV.int .u32 2))=some (AV.int .u32 ((((v%10000)%100)*2:Nat):Int)):=eI (k:= .u32) (a:=((v%10000)%100)) (b:=2) (wrap_u32 o!)
 have w8:IntKind.i64.wrap (((k:Nat):Int) - 1)=((k:Nat):Int) - 1:=(wrap_i64 o! o!)
 have w9:IntKind.i64.wrap (((k:Nat):Int) - 2)=((k:Nat):Int) - 2:=(wrap_i64 o! o!)
 have zJ:bu env .add 158 false true (some (AV.int .u32 ((((v%10000)%100)*2:Nat):Int))) (some (AV.int .u32 1))=some (AV.int .u32 (((((v%10000)%100)*2)+1:Nat):Int)):=dt (k:= .u32) (a:=(((v%10000)%100)*2)) (b:=1) (wrap_u32 o!)
 have KC:=kf (A:=((v%10000)%100)) o!
 have KD:=ke (A:=((v%10000)%100)) o!
 have KE:b8 env (some (.slice 5)) (some (AV.slice p o n c op)) (some (AV.int .i64 (((k:Nat):Int) - 1)))=some (AV.ptr p (o+(k - 1))):=cx (by kernel_rfl) (show (k - 1)<n by omega) o!
 obtain ⟨o6,oi⟩:∃hh:ax,hh=hl.put p (some (aK.cells (setFrom C o (bE .u8 (D.set (k - 1) (48+((v%10000)%100)%10)))) f false)):=⟨_,rfl⟩
 have vh:bY env hl 5 (AV.ptr p (o+(k - 1))) (AV.int .u8 ((48+((v%10000)%100)%10:Nat):Int))=some o6:=by rw[oi];exact bU (by kernel_rfl) o! lS (show (k - 1)<D.length by omega)
 have om:n5 hl o6 p (aK.cells (setFrom C o (bE .u8 (D.set (k - 1) (48+((v%10000)%100)%10)))) f false):=by rw[oi];exact cq r5 lS
 have oo:=om.1
 have IF:o6.nx=hl.nx:=by rw[oi];rfl
 obtain ⟨Ci,oq⟩:∃q_,q_=D.set (k - 1) (48+((v%10000)%100)%10):=⟨_,rfl⟩
 have kq:=om.2.1
 rw[←oq] at kq
 have Cj:Ci.length=n:=by rw[oq,List.length_set];exact FY
 have pC:Kept p h o6:=xP.trans om.2.2
 have F0:b8 env (some (.slice 5)) (some (AV.slice p o n c op)) (some (AV.int .i64 (((k:Nat):Int) - 2)))=some (AV.ptr p (o+(k - 2))):=cx (by kernel_rfl) (show (k - 2)<n by omega) o!
 obtain ⟨mq,ot⟩:∃hh:ax,hh=o6.put p (some (aK.cells (setFrom C o (bE .u8 (Ci.set (k - 2) (48+((v%10000)%100) /10)))) f false)):=⟨_,rfl⟩
 have Ck:bY env o6 5 (AV.ptr p (o+(k - 2))) (AV.int .u8 ((48+((v%10000)%100) /10:Nat):Int))=some mq:=by rw[ot];exact bU (by kernel_rfl) o! kq (show (k - 2)<Ci.length by omega)
 have ou:n5 o6 mq p (aK.cells (setFrom C o (bE .u8 (Ci.set (k - 2) (48+((v%10000)%100) /10)))) f false):=by rw[ot];exact cq oo kq
 have qx:=ou.1
 have Rs:mq.nx=o6.nx:=by rw[ot];rfl
 obtain ⟨Cl,ov⟩:∃q_,q_=Ci.set (k - 2) (48+((v%10000)%100) /10):=⟨_,rfl⟩
 have ow:=ou.2.1
 rw[←ov] at ow
 have Cm:Cl.length=n:=by rw[ov,List.length_set];exact Cj
 have pD:Kept p h mq:=pC.trans ou.2.2
 have XG:IntKind.i64.wrap (((k:Nat):Int) - 3)=((k:Nat):Int) - 3:=(wrap_i64 o! o!)
 have Rt:IntKind.i64.wrap (((k:Nat):Int) - 4)=((k:Nat):Int) - 4:=(wrap_i64 o! o!)
 have KF:bu env .add 158 false true (some (AV.int .u32 ((((v%10000) /100)*2:Nat):Int))) (some (AV.int .u32 1))=some (AV.int .u32 (((((v%10000) /100)*2)+1:Nat):Int)):=dt (k:= .u32) (a:=(((v%10000) /100)*2)) (b:=1) (wrap_u32 o!)
 have KG:=kf (A:=((v%10000) /100)) o!
 have KH:=ke (A:=((v%10000) /100)) o!
 have KI:b8 env (some (.slice 5)) (some (AV.slice p o n c op)) (some (AV.int .i64 (((k:Nat):Int) - 3)))=some (AV.ptr p (o+(k - 3))):=cx (by kernel_rfl) (show (k - 3)<n by omega) o!
 obtain ⟨tw,ox⟩:∃hh:ax,hh=mq.put p (some (aK.cells (setFrom C o (bE .u8 (Cl.set (k - 3) (48+((v%10000) /100)%10)))) f false)):=⟨_,rfl⟩
 have Cn:bY env mq 5 (AV.ptr p (o+(k - 3))) (AV.int .u8 ((48+((v%10000) /100)%10:Nat):Int))=some tw:=by rw[ox];exact bU (by kernel_rfl) o! ow (show (k - 3)<Cl.length by omega)
 have oA:n5 mq tw p (aK.cells (setFrom C o (bE .u8 (Cl.set (k - 3) (48+((v%10000) /100)%10)))) f false):=by rw[ox];exact cq qx ow
 have Co:=oA.1
 have Ru:tw.nx=mq.nx:=by rw[ox];rfl
 obtain ⟨Cp,oB⟩:∃q_,q_=Cl.set (k - 3) (48+((v%10000) /100)%10):=⟨_,rfl⟩
 have oC:=oA.2.1
 rw[←oB] at oC
 have Cq:Cp.length=n:=by rw[oB,List.length_set];exact Cm
 have Cr:Kept p h tw:=pD.trans oA.2.2
 have KJ:b8 env (some (.slice 5)) (some (AV.slice p o n c op)) (some (AV.int .i64 (((k:Nat):Int) - 4)))=some (AV.ptr p (o+(k - 4))):=cx (by kernel_rfl) (show (k - 4)<n by omega) o!
 obtain ⟨vi,oD⟩:∃hh:ax,hh=tw.put p (some (aK.cells (setFrom C o (bE .u8 (Cp.set (k - 4) (48+((v%10000) /100) /10)))) f false)):=⟨_,rfl⟩
 have Cs:bY env tw 5 (AV.ptr p (o+(k - 4))) (AV.int .u8 ((48+((v%10000) /100) /10:Nat):Int))=some vi:=by rw[oD];exact bU (by kernel_rfl) o! oC (show (k - 4)<Cp.length by omega)
 have oE:n5 tw vi p (aK.cells (setFrom C o (bE .u8 (Cp.set (k - 4) (48+((v%10000) /100) /10)))) f false):=by rw[oD];exact cq Co oC
 have Ct:=oE.1
 have Rv:vi.nx=tw.nx:=by rw[oD];rfl
 obtain ⟨Eh,oF⟩:∃q_,q_=Cp.set (k - 4) (48+((v%10000) /100) /10):=⟨_,rfl⟩
 have oG:=oE.2.1
 rw[←oF] at oG
 have Ei:Eh.length=n:=by rw[oF,List.length_set];exact Cq
 have Cu:Kept p h vi:=Cr.trans oE.2.2
 have XH:(decide (2≤(((k:Nat):Int) - 4)))=false:=(dF o!)
 have q31:(decide (0<(((k:Nat):Int) - 4)))=true:=(dT o!)
 have u32:bu env .add 158 true false (some (AV.int .u32 48)) (some (AV.int .u32 ((v/10000:Nat):Int)))=some (AV.int .u32 ((48+(v/10000):Nat):Int)):=dt (k:= .u32) (a:=48) (b:=(v/10000)) (wrap_u32 o!)
 have XF:b8 env (some (.slice 5)) (some (AV.slice p o n c op)) (some (AV.int .i64 0))=some (AV.ptr p (o+0)):=cx (by kernel_rfl) (show 0<n by omega) o!
 obtain ⟨Ml,Cd⟩:∃hh:ax,hh=vi.put p (some (aK.cells (setFrom C o (bE .u8 (Eh.set 0 (48+(v/10000))))) f false)):=⟨_,rfl⟩
 have Q_:bY env vi 5 (AV.ptr p (o+0)) (AV.int .u8 (IntKind.u8.wrap ((48+(v/10000):Nat):Int)))=some Ml:=by rw[Cd,(wrap_u8 (n:=48+(v/10000)) o!)];exact bU (by kernel_rfl) o! oG (show 0<Eh.length by omega)
 have Ce:n5 vi Ml p (aK.cells (setFrom C o (bE .u8 (Eh.set 0 (48+(v/10000))))) f false):=by rw[Cd];exact cq Ct oG
 have Q':=Ce.1
 have aay:Ml.nx=vi.nx:=by rw[Cd];rfl
 obtain ⟨VU,Cf⟩:∃q_,q_=Eh.set 0 (48+(v/10000)):=⟨_,rfl⟩
 have Cg:=Ce.2.1
 rw[←Cf] at Cg
 have VW:VU.length=n:=by rw[Cf,List.length_set];exact Ei
 have Ra:Kept p h Ml:=Cu.trans Ce.2.2
 have ev:=pk (d) iO ((AV.slice p o n c op)::(AV.int .u64 ((u:Nat):Int))::jg 165) h .normal Ml (CN 3<|LL lM<|CN 4<|VV (b9 3 false true .i64 ((k:Nat):Int) 4)<|BB q1<|CC<|VV u2<|CN 2<|VV u3<|CN 2<|VV u4<|VV u5<|CC<|VV u6<|VV u7<|CN 4<|VV (gD 3 false true w8)<|CN 2<|VV (gD 3 false true w9)<|CC<|VV zJ<|VV KC<|CC<|VV KD<|VV KE<|SS vh<|VV F0<|SS Ck<|CN 2<|VV (gD 3 false true XG)<|CN 2<|VV (gD 3 false true Rt)<|CC<|VV KF<|VV KG<|CC<|VV KH<|VV KI<|SS Cn<|VV KJ<|SS Cs<|CC<|VV (gD 3 false true Rt)<|CN 2<|VV (b9 3 false true .i64 (((k:Nat):Int) - 4) 2)<|BB XH<|CC<|VV (b7 3 false true .i64 (((k:Nat):Int) - 4) 0)<|BB q31<|CN 2<|VV u32<|CC<|VV XF<|SS Q_<|ZZ) (by kernel_rfl)
 have e:VU=dW u n:=by
  rw[Cf,oF,oB,ov,oq,FZ,hD,qg (k:=(k - 2)) (m:=k) (i:=(k - 1)) (j:=(k - 2)) o! o! o! o!,qg (k:=(k - 4)) (m:=(k - 2)) (i:=(k - 3)) (j:=(k - 4)) o! o! o! o!,Uq (m:=(k - 4)) o! o!,hk]
  simp only[dW,List.take_zero,Nat.sub_self,List.nil_append,List.cons_append,List.append_assoc]
  simp only[List.cons.injEq,and_true]
  (repeat' apply And.intro)<;>omega
 rw[e] at Cg
 exact kS rfl (aI Tryz.func104 tu (by kernel_rfl) (.inl rfl) ev (by kernel_rfl)) ⟨Q',Cg,Ra⟩ ca Eg o!
theorem Uu (x:FB d h l u p o n c op C f k v hl yl W D) (hk:k=4):FG d h u p o n c op C f:=by
 obtain ⟨hn,C4,hf,Eg,ca,lM,SN,hW,FZ,hv,r5,rD,Dt,lS,hD,FY,SO,Ch⟩:=x
 have MV:v<10000:=by have:=hv;rw[hk] at this;exact this
 have xP:Kept p h hl:=rD
 have q1:(decide (4≤((k:Nat):Int)))=true:=(dT o!)
 have u2:bu env .rem 158 false true (some (AV.int .u32 (IntKind.u32.wrap ((v:Nat):Int)))) (some (AV.int .u32 10000))=some (AV.int .u32 ((v%10000:Nat):Int)):=by rw[Ch];exact fh (k:= .u32) (a:=v) (b:=10000) o!
 have u3:bu env .quo 158 false true (some (AV.int .u32 (IntKind.u32.wrap ((v:Nat):Int)))) (some (AV.int .u32 10000))=some (AV.int .u32 ((v/10000:Nat):Int)):=by rw[Ch];exact ff (k:= .u32) (a:=v) (b:=10000) o! (wrap_u32 o!)
 have u4:bu env .quo 158 false true (some (AV.int .u32 ((v%10000:Nat):Int))) (some (AV.int .u32 100))=some (AV.int .u32 (((v%10000) /100:Nat):Int)):=ff (k:= .u32) (a:=(v%10000)) (b:=100) o! (wrap_u32 o!)
 have u5:bu env .mul 158 false true (some (AV.int .u32 (((v%10000) /100:Nat):Int))) (some (AV.int .u32 2))=some (AV.int .u32 ((((v%10000) /100)*2:Nat):Int)):=eI (k:= .u32) (a:=((v%10000) /100)) (b:=2) (wrap_u32 o!)
 have u6:bu env .rem 158 false true (some (AV.int .u32 ((v%10000:Nat):Int))) (some (AV.int .u32 100))=some (AV.int .u32 (((v%10000)%100:Nat):Int)):=fh (k:= .u32) (a:=(v%10000)) (b:=100) o!
 have u7:bu env .mul 158 false true (some (AV.int .u32 (((v%10000)%100:Nat):Int))) (some (AV.int .u32 2))=some (AV.int .u32 ((((v%10000)%100)*2:Nat):Int)):=eI (k:= .u32) (a:=((v%10000)%100)) (b:=2) (wrap_u32 o!)
 have w8:IntKind.i64.wrap (((k:Nat):Int) - 1)=((k:Nat):Int) - 1:=(wrap_i64 o! o!)
 have w9:IntKind.i64.wrap (((k:Nat):Int) - 2)=((k:Nat):Int) - 2:=(wrap_i64 o! o!)
 have zJ:bu env .add 158 false true (some (AV.int .u32 ((((v%10000)%100)*2:Nat):Int))) (some (AV.int .u32 1))=some (AV.int .u32 (((((v%10000)%100)*2)+1:Nat):Int)):=dt (k:= .u32) (a:=(((v%10000)%100)*2)) (b:=1) (wrap_u32 o!)
 have KC:=kf (A:=((v%10000)%100)) o!
 have KD:=ke (A:=((v%10000)%100)) o!
 have KE:b8 env (some (.slice 5)) (some (AV.slice p o n c op)) (some (AV.int .i64 (((k:Nat):Int) - 1)))=some (AV.ptr p (o+(k - 1))):=cx (by kernel_rfl) (show (k - 1)<n by omega) o!
 obtain ⟨o6,oi⟩:∃hh:ax,hh=hl.put p (some (aK.cells (setFrom C o (bE .u8 (D.set (k - 1) (48+((v%10000)%100)%10)))) f false)):=⟨_,rfl⟩
 have vh:bY env hl 5 (AV.ptr p (o+(k - 1))) (AV.int .u8 ((48+((v%10000)%100)%10:Nat):Int))=some o6:=by rw[oi];exact bU (by kernel_rfl) o! lS (show (k - 1)<D.length by omega)
 have om:n5 hl o6 p (aK.cells (setFrom C o (bE .u8 (D.set (k - 1) (48+((v%10000)%100)%10)))) f false):=by rw[oi];exact cq r5 lS
 have oo:=om.1
 have IF:o6.nx=hl.nx:=by rw[oi];rfl
 obtain ⟨Ci,oq⟩:∃q_,q_=D.set (k - 1) (48+((v%10000)%100)%10):=⟨_,rfl⟩
 have kq:=om.2.1
 rw[←oq] at kq
 have Cj:Ci.length=n:=by rw[oq,List.length_set];exact FY
 have pC:Kept p h o6:=xP.trans om.2.2
 have F0:b8 env (some (.slice 5)) (some (AV.slice p o n c op)) (some (AV.int .i64 (((k:Nat):Int) - 2)))=some (AV.ptr p (o+(k - 2))):=cx (by kernel_rfl) (show (k - 2)<n by omega) o!
 obtain ⟨mq,ot⟩:∃hh:ax,hh=o6.put p (some (aK.cells (setFrom C o (bE .u8 (Ci.set (k - 2) (48+((v%10000)%100) /10)))) f false)):=⟨_,rfl⟩
 have Ck:bY env o6 5 (AV.ptr p (o+(k - 2))) (AV.int .u8 ((48+((v%10000)%100) /10:Nat):Int))=some mq:=by rw[ot];exact bU (by kernel_rfl) o! kq (show (k - 2)<Ci.length by omega)
 have ou:n5 o6 mq p (aK.cells (setFrom C o (bE .u8 (Ci.set (k - 2) (48+((v%10000)%100) /10)))) f false):=by rw[ot];exact cq oo kq
 have qx:=ou.1
 have Rs:mq.nx=o6.nx:=by rw[ot];rfl
 obtain ⟨Cl,ov⟩:∃q_,q_=Ci.set (k - 2) (48+((v%10000)%100) /10):=⟨_,rfl⟩
 have ow:=ou.2.1
 rw[←ov] at ow
 have Cm:Cl.length=n:=by rw[ov,List.length_set];exact Cj
 have pD:Kept p h mq:=pC.trans ou.2.2
 have XG:IntKind.i64.wrap (((k:Nat):Int) - 3)=((k:Nat):Int) - 3:=(wrap_i64 o! o!)
 have Rt:IntKind.i64.wrap (((k:Nat):Int) - 4)=((k:Nat):Int) - 4:=(wrap_i64 o! o!)
 have KF:bu env .add 158 false true (some (AV.int .u32 ((((v%10000) /100)*2:Nat):Int))) (some (AV.int .u32 1))=some (AV.int .u32 (((((v%10000) /100)*2)+1:Nat):Int)):=dt (k:= .u32) (a:=(((v%10000) /100)*2)) (b:=1) (wrap_u32 o!)
 have KG:=kf (A:=((v%10000) /100)) o!
 have KH:=ke (A:=((v%10000) /100)) o!
 have KI:b8 env (some (.slice 5)) (some (AV.slice p o n c op)) (some (AV.int .i64 (((k:Nat):Int) - 3)))=some (AV.ptr p (o+(k - 3))):=cx (by kernel_rfl) (show (k - 3)<n by omega) o!
 obtain ⟨tw,ox⟩:∃hh:ax,hh=mq.put p (some (aK.cells (setFrom C o (bE .u8 (Cl.set (k - 3) (48+((v%10000) /100)%10)))) f false)):=⟨_,rfl⟩
 have Cn:bY env mq 5 (AV.ptr p (o+(k - 3))) (AV.int .u8 ((48+((v%10000) /100)%10:Nat):Int))=some tw:=by rw[ox];exact bU (by kernel_rfl) o! ow (show (k - 3)<Cl.length by omega)
 have oA:n5 mq tw p (aK.cells (setFrom C o (bE .u8 (Cl.set (k - 3) (48+((v%10000) /100)%10)))) f false):=by rw[ox];exact cq qx ow
 have Co:=oA.1
 have Ru:tw.nx=mq.nx:=by rw[ox];rfl
 obtain ⟨Cp,oB⟩:∃q_,q_=Cl.set (k - 3) (48+((v%10000) /100)%10):=⟨_,rfl⟩
 have oC:=oA.2.1
 rw[←oB] at oC
 have Cq:Cp.length=n:=by rw[oB,List.length_set];exact Cm
 have Cr:Kept p h tw:=pD.trans oA.2.2
 have KJ:b8 env (some (.slice 5)) (some (AV.slice p o n c op)) (some (AV.int .i64 (((k:Nat):Int) - 4)))=some (AV.ptr p (o+(k - 4))):=cx (by kernel_rfl) (show (k - 4)<n by omega) o!
 obtain ⟨vi,oD⟩:∃hh:ax,hh=tw.put p (some (aK.cells (setFrom C o (bE .u8 (Cp.set (k - 4) (48+((v%10000) /100) /10)))) f false)):=⟨_,rfl⟩
 have Cs:bY env tw 5 (AV.ptr p (o+(k - 4))) (AV.int .u8 ((48+((v%10000) /100) /10:Nat):Int))=some vi:=by rw[oD];exact bU (by kernel_rfl) o! oC (show (k - 4)<Cp.length by omega)
 have oE:n5 tw vi p (aK.cells (setFrom C o (bE .u8 (Cp.set (k - 4) (48+((v%10000) /100) /10)))) f false):=by rw[oD];exact cq Co oC
 have Ct:=oE.1
 have Rv:vi.nx=tw.nx:=by rw[oD];rfl
 obtain ⟨Eh,oF⟩:∃q_,q_=Cp.set (k - 4) (48+((v%10000) /100) /10):=⟨_,rfl⟩
 have oG:=oE.2.1
 rw[←oF] at oG
 have Ei:Eh.length=n:=by rw[oF,List.length_set];exact Cq
 have Cu:Kept p h vi:=Cr.trans oE.2.2
 have XH:(decide (2≤(((k:Nat):Int) - 4)))=false:=(dF o!)
 have q31:(decide (0<(((k:Nat):Int) - 4)))=false:=(dF o!)
 have ev:=pk (d) iO ((AV.slice p o n c op)::(AV.int .u64 ((u:Nat):Int))::jg 165) h .normal vi (CN 3<|LL lM<|CN 4<|VV (b9 3 false true .i64 ((k:Nat):Int) 4)<|BB q1<|CC<|VV u2<|CN 2<|VV u3<|CN 2<|VV u4<|VV u5<|CC<|VV u6<|VV u7<|CN 4<|VV (gD 3 false true w8)<|CN 2<|VV (gD 3 false true w9)<|CC<|VV zJ<|VV KC<|CC<|VV KD<|VV KE<|SS vh<|VV F0<|SS Ck<|CN 2<|VV (gD 3 false true XG)<|CN 2<|VV (gD 3 false true Rt)<|CC<|VV KF<|VV KG<|CC<|VV KH<|VV KI<|SS Cn<|VV KJ<|SS Cs<|CC<|VV (gD 3 false true Rt)<|CN 2<|VV (b9 3 false true .i64 (((k:Nat):Int) - 4) 2)<|BB XH<|CC<|VV (b7 3 false true .i64 (((k:Nat):Int) - 4) 0)<|BB q31<|ZZ) (by kernel_rfl)
 have e:Eh=dW u n:=by
  rw[oF,oB,ov,oq,FZ,hD,qg (k:=(k - 2)) (m:=k) (i:=(k - 1)) (j:=(k - 2)) o! o! o! o!,qg (k:=(k - 4)) (m:=(k - 2)) (i:=(k - 3)) (j:=(k - 4)) o! o! o! o!,hk]
  simp only[dW,List.take_zero,Nat.sub_self,List.nil_append,List.cons_append,List.append_assoc]
  simp only[List.cons.injEq,and_true]
  (repeat' apply And.intro)<;>omega
 rw[e] at oG
 exact kS rfl (aI Tryz.func104 tu (by kernel_rfl) (.inl rfl) ev (by kernel_rfl)) ⟨Ct,oG,Cu⟩ ca Eg o!
theorem Uv (x:FB d h l u p o n c op C f k v hl yl W D) (hk:k=3):FG d h u p o n c op C f:=by
 obtain ⟨hn,C4,hf,Eg,ca,lM,SN,hW,FZ,hv,r5,rD,Dt,lS,hD,FY,SO,Ch⟩:=x
 have MV:v<1000:=by have:=hv;rw[hk] at this;exact this
 have xP:Kept p h hl:=rD
 have q1:(decide (4≤((k:Nat):Int)))=false:=(dF o!)
 have q2:(decide (2≤((k:Nat):Int)))=true:=(dT o!)
 have u3:bu env .rem 158 false true (some (AV.int .u32 (IntKind.u32.wrap ((v:Nat):Int)))) (some (AV.int .u32 100))=some (AV.int .u32 ((v%100:Nat):Int)):=by rw[Ch];exact fh (k:= .u32) (a:=v) (b:=100) o!
 have u4:bu env .mul 158 false true (some (AV.int .u32 ((v%100:Nat):Int))) (some (AV.int .u32 2))=some (AV.int .u32 (((v%100)*2:Nat):Int)):=eI (k:= .u32) (a:=(v%100)) (b:=2) (wrap_u32 o!)
 have u5:bu env .quo 158 false true (some (AV.int .u32 (IntKind.u32.wrap ((v:Nat):Int)))) (some (AV.int .u32 100))=some (AV.int .u32 ((v/100:Nat):Int)):=by rw[Ch];exact ff (k:= .u32) (a:=v) (b:=100) o! (wrap_u32 o!)
 have w6:IntKind.i64.wrap (((k:Nat):Int) - 1)=((k:Nat):Int) - 1:=(wrap_i64 o! o!)
 have w7:IntKind.i64.wrap (((k:Nat):Int) - 2)=((k:Nat):Int) - 2:=(wrap_i64 o! o!)
 have u8:bu env .add 158 false true (some (AV.int .u32 (((v%100)*2:Nat):Int))) (some (AV.int .u32 1))=some (AV.int .u32 ((((v%100)*2)+1:Nat):Int)):=dt (k:= .u32) (a:=((v%100)*2)) (b:=1) (wrap_u32 o!)
 have ti9:=kf (A:=(v%100)) o!
 have XM:=ke (A:=(v%100)) o!
 have FR:b8 env (some (.slice 5)) (some (AV.slice p o n c op)) (some (AV.int .i64 (((k:Nat):Int) - 1)))=some (AV.ptr p (o+(k - 1))):=cx (by kernel_rfl) (show (k - 1)<n by omega) o!
 obtain ⟨yg,CE⟩:∃hh:ax,hh=hl.put p (some (aK.cells (setFrom C o (bE .u8 (D.set (k - 1) (48+(v%100)%10)))) f false)):=⟨_,rfl⟩
 have RK:bY env hl 5 (AV.ptr p (o+(k - 1))) (AV.int .u8 ((48+(v%100)%10:Nat):Int))=some yg:=by rw[CE];exact bU (by kernel_rfl) o! lS (show (k - 1)<D.length by omega)
 have CG:n5 hl yg p (aK.cells (setFrom C o (bE .u8 (D.set (k - 1) (48+(v%100)%10)))) f false):=by rw[CE];exact cq r5 lS
 have xQ:=CG.1
 have aaT:yg.nx=hl.nx:=by rw[CE];rfl
 obtain ⟨RL,CH⟩:∃q_,q_=D.set (k - 1) (48+(v%100)%10):=⟨_,rfl⟩
 have tx:=CG.2.1
 rw[←CH] at tx
 have RM:RL.length=n:=by rw[CH,List.length_set];exact FY
 have xR:Kept p h yg:=xP.trans CG.2.2
 have XN:b8 env (some (.slice 5)) (some (AV.slice p o n c op)) (some (AV.int .i64 (((k:Nat):Int) - 2)))=some (AV.ptr p (o+(k - 2))):=cx (by kernel_rfl) (show (k - 2)<n by omega) o!
 obtain ⟨qa,CI⟩:∃hh:ax,hh=yg.put p (some (aK.cells (setFrom C o (bE .u8 (RL.set (k - 2) (48+(v%100) /10)))) f false)):=⟨_,rfl⟩
 have RN:bY env yg 5 (AV.ptr p (o+(k - 2))) (AV.int .u8 ((48+(v%100) /10:Nat):Int))=some qa:=by rw[CI];exact bU (by kernel_rfl) o! tx (show (k - 2)<RL.length by omega)
 have CJ:n5 yg qa p (aK.cells (setFrom C o (bE .u8 (RL.set (k - 2) (48+(v%100) /10)))) f false):=by rw[CI];exact cq xQ tx
 have tg:=CJ.1
 have aaU:qa.nx=yg.nx:=by rw[CI];rfl
 obtain ⟨V3,CK⟩:∃q_,q_=RL.set (k - 2) (48+(v%100) /10):=⟨_,rfl⟩
 have xS:=CJ.2.1
 rw[←CK] at xS
 have V4:V3.length=n:=by rw[CK,List.length_set];exact RM
 have m4:Kept p h qa:=xR.trans CJ.2.2
 have q17:(decide (0<(((k:Nat):Int) - 2)))=true:=(dT o!)
 have XO:bu env .add 158 true false (some (AV.int .u32 48)) (some (AV.int .u32 ((v/100:Nat):Int)))=some (AV.int .u32 ((48+(v/100):Nat):Int)):=dt (k:= .u32) (a:=48) (b:=(v/100)) (wrap_u32 o!)
 have XE:b8 env (some (.slice 5)) (some (AV.slice p o n c op)) (some (AV.int .i64 0))=some (AV.ptr p (o+0)):=cx (by kernel_rfl) (show 0<n by omega) o!
 obtain ⟨GC,B'⟩:∃hh:ax,hh=qa.put p (some (aK.cells (setFrom C o (bE .u8 (V3.set 0 (48+(v/100))))) f false)):=⟨_,rfl⟩
 have Q1:bY env qa 5 (AV.ptr p (o+0)) (AV.int .u8 (IntKind.u8.wrap ((48+(v/100):Nat):Int)))=some GC:=by rw[B',(wrap_u8 (n:=48+(v/100)) o!)];exact bU (by kernel_rfl) o! xS (show 0<V3.length by omega)
 have Ca:n5 qa GC p (aK.cells (setFrom C o (bE .u8 (V3.set 0 (48+(v/100))))) f false):=by rw[B'];exact cq tg xS
 have ID:=Ca.1
 have aap:GC.nx=qa.nx:=by rw[B'];rfl
 obtain ⟨VP,Cb⟩:∃q_,q_=V3.set 0 (48+(v/100)):=⟨_,rfl⟩
 have Cc:=Ca.2.1
 rw[←Cb] at Cc
 have VQ:VP.length=n:=by rw[Cb,List.length_set];exact V4
 have IE:Kept p h GC:=m4.trans Ca.2.2
 have ev:=pk (d) iO ((AV.slice p o n c op)::(AV.int .u64 ((u:Nat):Int))::jg 165) h .normal GC (CN 3<|LL lM<|CN 4<|VV (b9 3 false true .i64 ((k:Nat):Int) 4)<|BB q1<|CC<|VV (b9 3 false true .i64 ((k:Nat):Int) 2)<|BB q2<|CC<|VV u3<|VV u4<|CN 2<|VV u5<|CN 3<|VV (gD 3 false true w6)<|CN 2<|VV (gD 3 false true w7)<|CC<|VV u8<|VV ti9<|CC<|VV XM<|VV FR<|SS RK<|VV XN<|SS RN<|CC<|VV (gD 3 false true w7)<|CN 2<|VV (b7 3 false true .i64 (((k:Nat):Int) - 2) 0)<|BB q17<|CN 2<|VV XO<|CC<|VV XE<|SS Q1<|ZZ) (by kernel_rfl)
 have e:VP=dW u n:=by
  rw[Cb,CK,CH,FZ,hD,qg (k:=(k - 2)) (m:=k) (i:=(k - 1)) (j:=(k - 2)) o! o! o! o!,Uq (m:=(k - 2)) o! o!,hk]
  simp only[dW,List.take_zero,Nat.sub_self,List.nil_append,List.cons_append,List.append_assoc]
  simp only[List.cons.injEq,and_true]
  (repeat' apply And.intro)<;>omega
 rw[e] at Cc
 exact kS rfl (aI Tryz.func104 tu (by kernel_rfl) (.inl rfl) ev (by kernel_rfl)) ⟨ID,Cc,IE⟩ ca Eg o!
theorem Uw (x:FB d h l u p o n c op C f k v hl yl W D) (hk:k=2):FG d h u p o n c op C f:=by
 obtain ⟨hn,C4,hf,Eg,ca,lM,SN,hW,FZ,hv,r5,rD,Dt,lS,hD,FY,SO,Ch⟩:=x
 have MV:v<100:=by have:=hv;rw[hk] at this;exact this
 have xP:Kept p h hl:=rD
 have q1:(decide (4≤((k:Nat):Int)))=false:=(dF o!)
 have q2:(decide (2≤((k:Nat):Int)))=true:=(dT o!)
 have u3:bu env .rem 158 false true (some (AV.int .u32 (IntKind.u32.wrap ((v:Nat):Int)))) (some (AV.int .u32 100))=some (AV.int .u32 ((v%100:Nat):Int)):=by rw[Ch];exact fh (k:= .u32) (a:=v) (b:=100) o!
 have u4:bu env .mul 158 false true (some (AV.int .u32 ((v%100:Nat):Int))) (some (AV.int .u32 2))=some (AV.int .u32 (((v%100)*2:Nat):Int)):=eI (k:= .u32) (a:=(v%100)) (b:=2) (wrap_u32 o!)
 have u5:bu env .quo 158 false true (some (AV.int .u32 (IntKind.u32.wrap ((v:Nat):Int)))) (some (AV.int .u32 100))=some (AV.int .u32 ((v/100:Nat):Int)):=by rw[Ch];exact ff (k:= .u32) (a:=v) (b:=100) o! (wrap_u32 o!)
 have w6:IntKind.i64.wrap (((k:Nat):Int) - 1)=((k:Nat):Int) - 1:=(wrap_i64 o! o!)
 have w7:IntKind.i64.wrap (((k:Nat):Int) - 2)=((k:Nat):Int) - 2:=(wrap_i64 o! o!)
 have u8:bu env .add 158 false true (some (AV.int .u32 (((v%100)*2:Nat):Int))) (some (AV.int .u32 1))=some (AV.int .u32 ((((v%100)*2)+1:Nat):Int)):=dt (k:= .u32) (a:=((v%100)*2)) (b:=1) (wrap_u32 o!)
 have ti9:=kf (A:=(v%100)) o!
 have XM:=ke (A:=(v%100)) o!
 have FR:b8 env (some (.slice 5)) (some (AV.slice p o n c op)) (some (AV.int .i64 (((k:Nat):Int) - 1)))=some (AV.ptr p (o+(k - 1))):=cx (by kernel_rfl) (show (k - 1)<n by omega) o!
 obtain ⟨yg,CE⟩:∃hh:ax,hh=hl.put p (some (aK.cells (setFrom C o (bE .u8 (D.set (k - 1) (48+(v%100)%10)))) f false)):=⟨_,rfl⟩
 have RK:bY env hl 5 (AV.ptr p (o+(k - 1))) (AV.int .u8 ((48+(v%100)%10:Nat):Int))=some yg:=by rw[CE];exact bU (by kernel_rfl) o! lS (show (k - 1)<D.length by omega)
 have CG:n5 hl yg p (aK.cells (setFrom C o (bE .u8 (D.set (k - 1) (48+(v%100)%10)))) f false):=by rw[CE];exact cq r5 lS
 have xQ:=CG.1
 have aaT:yg.nx=hl.nx:=by rw[CE];rfl
 obtain ⟨RL,CH⟩:∃q_,q_=D.set (k - 1) (48+(v%100)%10):=⟨_,rfl⟩
 have tx:=CG.2.1
 rw[←CH] at tx
 have RM:RL.length=n:=by rw[CH,List.length_set];exact FY
 have xR:Kept p h yg:=xP.trans CG.2.2
 have XN:b8 env (some (.slice 5)) (some (AV.slice p o n c op)) (some (AV.int .i64 (((k:Nat):Int) - 2)))=some (AV.ptr p (o+(k - 2))):=cx (by kernel_rfl) (show (k - 2)<n by omega) o!
 obtain ⟨qa,CI⟩:∃hh:ax,hh=yg.put p (some (aK.cells (setFrom C o (bE .u8 (RL.set (k - 2) (48+(v%100) /10)))) f false)):=⟨_,rfl⟩
 have RN:bY env yg 5 (AV.ptr p (o+(k - 2))) (AV.int .u8 ((48+(v%100) /10:Nat):Int))=some qa:=by rw[CI];exact bU (by kernel_rfl) o! tx (show (k - 2)<RL.length by omega)
 have CJ:n5 yg qa p (aK.cells (setFrom C o (bE .u8 (RL.set (k - 2) (48+(v%100) /10)))) f false):=by rw[CI];exact cq xQ tx
 have tg:=CJ.1
 have aaU:qa.nx=yg.nx:=by rw[CI];rfl
 obtain ⟨V3,CK⟩:∃q_,q_=RL.set (k - 2) (48+(v%100) /10):=⟨_,rfl⟩
 have xS:=CJ.2.1
 rw[←CK] at xS
 have V4:V3.length=n:=by rw[CK,List.length_set];exact RM
 have m4:Kept p h qa:=xR.trans CJ.2.2
 have q17:(decide (0<(((k:Nat):Int) - 2)))=false:=(dF o!)
 have ev:=pk (d) iO ((AV.slice p o n c op)::(AV.int .u64 ((u:Nat):Int))::jg 165) h .normal qa (CN 3<|LL lM<|CN 4<|VV (b9 3 false true .i64 ((k:Nat):Int) 4)<|BB q1<|CC<|VV (b9 3 false true .i64 ((k:Nat):Int) 2)<|BB q2<|CC<|VV u3<|VV u4<|CN 2<|VV u5<|CN 3<|VV (gD 3 false true w6)<|CN 2<|VV (gD 3 false true w7)<|CC<|VV u8<|VV ti9<|CC<|VV XM<|VV FR<|SS RK<|VV XN<|SS RN<|CC<|VV (gD 3 false true w7)<|CN 2<|VV (b7 3 false true .i64 (((k:Nat):Int) - 2) 0)<|BB q17<|ZZ) (by kernel_rfl)
 have e:V3=dW u n:=by
  rw[CK,CH,FZ,hD,qg (k:=(k - 2)) (m:=k) (i:=(k - 1)) (j:=(k - 2)) o! o! o! o!,hk]
  simp only[dW,List.take_zero,Nat.sub_self,List.nil_append,List.cons_append,List.append_assoc]
  simp only[List.cons.injEq,and_true]
  (repeat' apply And.intro)<;>omega
 rw[e] at xS
 exact kS rfl (aI Tryz.func104 tu (by kernel_rfl) (.inl rfl) ev (by kernel_rfl)) ⟨tg,xS,m4⟩ ca Eg o!
theorem Ux (x:FB d h l u p o n c op C f k v hl yl W D) (hk:k=1):FG d h u p o n c op C f:=by
 obtain ⟨hn,C4,hf,Eg,ca,lM,SN,hW,FZ,hv,r5,rD,Dt,lS,hD,FY,SO,Ch⟩:=x
 have MV:v<10:=by have:=hv;rw[hk] at this;exact this
 have xP:Kept p h hl:=rD
 have q1:(decide (4≤((k:Nat):Int)))=false:=(dF o!)
 have q2:(decide (2≤((k:Nat):Int)))=false:=(dF o!)
 have q3:(decide (0<((k:Nat):Int)))=true:=(dT o!)
 have u4:bu env .add 158 true false (some (AV.int .u32 48)) (some (AV.int .u32 (IntKind.u32.wrap ((v:Nat):Int))))=some (AV.int .u32 ((48+v:Nat):Int)):=by rw[Ch];exact dt (k:= .u32) (a:=48) (b:=v) (wrap_u32 o!)
 have Ns:b8 env (some (.slice 5)) (some (AV.slice p o n c op)) (some (AV.int .i64 0))=some (AV.ptr p (o+0)):=cx (by kernel_rfl) (show 0<n by omega) o!
 obtain ⟨h6,XP⟩:∃hh:ax,hh=hl.put p (some (aK.cells (setFrom C o (bE .u8 (D.set 0 (48+v)))) f false)):=⟨_,rfl⟩
 have acQ:bY env hl 5 (AV.ptr p (o+0)) (AV.int .u8 (IntKind.u8.wrap ((48+v:Nat):Int)))=some h6:=by rw[XP,(wrap_u8 (n:=48+v) o!)];exact bU (by kernel_rfl) o! lS (show 0<D.length by omega)
 have KK:n5 hl h6 p (aK.cells (setFrom C o (bE .u8 (D.set 0 (48+v)))) f false):=by rw[XP];exact cq r5 lS
 have kJ:=KK.1
 have BK:h6.nx=hl.nx:=by rw[XP];rfl
 obtain ⟨D7,XQ⟩:∃q_,q_=D.set 0 (48+v):=⟨_,rfl⟩
 have n7:=KK.2.1
 rw[←XQ] at n7
 have aeh:D7.length=n:=by rw[XQ,List.length_set];exact FY
 have iC:Kept p h h6:=xP.trans KK.2.2
 have ev:=pk (d) iO ((AV.slice p o n c op)::(AV.int .u64 ((u:Nat):Int))::jg 165) h .normal h6 (CN 3<|LL lM<|CN 4<|VV (b9 3 false true .i64 ((k:Nat):Int) 4)<|BB q1<|CC<|VV (b9 3 false true .i64 ((k:Nat):Int) 2)<|BB q2<|CC<|VV (b7 3 false true .i64 ((k:Nat):Int) 0)<|BB q3<|CN 2<|VV u4<|CC<|VV Ns<|SS acQ<|ZZ) (by kernel_rfl)
 have e:D7=dW u n:=by
  rw[XQ,FZ,hD,Uq (m:=k) o! o!,hk]
  simp only[dW,List.take_zero,Nat.sub_self,List.nil_append,List.cons_append,List.append_assoc]
  simp only[List.cons.injEq,and_true]
  (repeat' apply And.intro)<;>omega
 rw[e] at n7
 exact kS rfl (aI Tryz.func104 tu (by kernel_rfl) (.inl rfl) ev (by kernel_rfl)) ⟨kJ,n7,iC⟩ ca Eg o!
theorem Uy (x:FB d h l u p o n c op C f k v hl yl W D) (hk:k=0):FG d h u p o n c op C f:=by
 obtain ⟨hn,C4,hf,Eg,ca,lM,SN,hW,FZ,hv,r5,rD,Dt,lS,hD,FY,SO,Ch⟩:=x
 have MV:v<1:=by have:=hv;rw[hk] at this;exact this
 have xP:Kept p h hl:=rD
 have q1:(decide (4≤((k:Nat):Int)))=false:=(dF o!)
 have q2:(decide (2≤((k:Nat):Int)))=false:=(dF o!)
 have q3:(decide (0<((k:Nat):Int)))=false:=(dF o!)
 have ev:=pk (d) iO ((AV.slice p o n c op)::(AV.int .u64 ((u:Nat):Int))::jg 165) h .normal hl (CN 3<|LL lM<|CN 4<|VV (b9 3 false true .i64 ((k:Nat):Int) 4)<|BB q1<|CC<|VV (b9 3 false true .i64 ((k:Nat):Int) 2)<|BB q2<|CC<|VV (b7 3 false true .i64 ((k:Nat):Int) 0)<|BB q3<|ZZ) (by kernel_rfl)
 have e:D=dW u n:=by
  rw[FZ,hD,hk]
  simp only[dW,List.take_zero,Nat.sub_self,List.nil_append,List.cons_append,List.append_assoc]
 rw[e] at lS
 exact kS rfl (aI Tryz.func104 tu (by kernel_rfl) (.inl rfl) ev (by kernel_rfl)) ⟨r5,lS,rD⟩ ca Eg o!
end
theorem RO {d:Nat} {h:ax} {l:List Nat} {u p o n c:Nat} {op:Bool} {C:List AV} {f:TypeId} (hn:l.length=n) (C4:n<2^60) (hf:o+n≤C.length) (hC:Holds .u8 C o l) (Eg:h.get p=some (.cells C f false)) (hu:u<10^n) (KB:u<18446744073709551616) (ca:Tidy h):
 ∃hk,cT (d+1) (.fn 104) [.slice p o n c op,.int .u64 (u:Nat)] h= .ret (.tuple []) hk∧n5 h hk p (.cells (setFrom C o (bE .u8 (dW u n))) f false)∧hk.nx=h.nx:=by
 have hg:h.get p=some (.cells (setFrom C o (bE .u8 (l.take n++[]))) f false):=by
  rw[List.append_nil,List.take_of_length_le o!,Xk hC];exact Eg
 obtain ⟨⟨k,v⟩,hl,⟨yl,lM⟩,SN,W,hW,FZ,hv,r5,rD,Dt,lS⟩:=Ny (d:=d) (hs:=h) (ds:=[]) (rc:= .no) (c:=c) (op:=op) (U:=u) hn C4 hf n n u h [] o! (by simp) (by simp) hu KB ca (Kept.refl _ _) rfl hg (fun k=>(((AV.slice p o n c op)::(AV.int .u64 ((u:Nat):Int))::AV.undef::AV.undef::(AV.int .i64 ((n:Nat):Int))::AV.undef::AV.undef::AV.undef::AV.undef::AV.undef::AV.undef::AV.undef::AV.undef::AV.undef::AV.undef::AV.undef::AV.undef::(AV.slice p o n c op)::(AV.int .i64 ((n:Nat):Int))::jg 148):List AV).getD k AV.undef)
 simp only at SN hW FZ hv lM lS
 obtain ⟨D,hD⟩:∃D,D=l.take k++W:=⟨_,rfl⟩
 rw[←hD] at lS
 have FY:D.length=n:=by rw[hD];simp;omega
 have SO:v<10000000:=Nat.lt_of_lt_of_le hv (Nat.pow_le_pow_right o! (show k≤7 by omega))
 have Ch:IntKind.u32.wrap ((v:Nat):Int)=((v:Nat):Int):=wrap_u32 o!
 have fb:FB d h l u p o n c op C f k v hl yl W D:=⟨hn,C4,hf,Eg,ca,lM,by omega,by omega,FZ,hv,r5,rD,Dt,lS,hD,FY,SO,Ch⟩
 have:k=7∨k=6∨k=5∨k=4∨k=3∨k=2∨k=1∨k=0:=by omega
 rcases this with q | q | q | q | q | q | q | q
 · exact Ur fb q
 · exact Us fb q
 · exact Ut fb q
 · exact Uu fb q
 · exact Uv fb q
 · exact Uw fb q
 · exact Ux fb q
 · exact Uy fb q
end
end Go.Proofs.aM
