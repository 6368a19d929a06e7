import Derived.Test.YtkkpegaeikljmaaGreatDoorA6
import Derived.Test.YtkkpegaeikljmaaGreatDoorW0
import Derived.Test.YtkkpegaeikljmaaGreatDoorEnv
import Derived.Test.YtkkpegaeikljmaaGreatDoorW13
import Derived.Test.YtkkpegaeikljmaaGreatDoorW12
namespace Go.Proofs.aF
open Go.Proofs Ab
set_option maxRecDepth 100000
set_option maxHeartbeats 4000000
set_option linter.unusedVariables false
set_option linter.unusedSimpArgs false
noncomputable def kM:Code:=(Tryz.f33.body).getD .skip
theorem HU:Tryz.f33.body=some kM:=by kernel_rfl
noncomputable def pM:Code:=(aY kM).getD 0 .skip
noncomputable def iX:Code:=(aY kM).getD 1 .skip
theorem JV {n:Nat} (h:n<2147483648):IntKind.i32.wrap (n:Int)=(n:Int):=by
 show (if (true&&decide ((n:Int)%2^32≥2^31))=true then (n:Int)%2^32 - 2^32 else (n:Int)%2^32)=(n:Int)
 rw[if_neg (by simp;omega)]
 omega
theorem JW {x:Int} {N:Nat} (e:x=(N:Int)) (h:N<128):E5 x=some (.str [UInt8.ofNat N]):=by
 subst e
 unfold E5
 rw[if_pos ⟨by omega,by omega⟩,Int.toNat_natCast]
theorem rP (t:TypeId) (c d:Bool) (a b:List UInt8) (h:a.length+b.length<1099511627776):aI env .add t c d (some (.str a)) (some (.str b))=some (.str (a++b)):=by
 simp [aI,pX,CL,h]
def zy (u:Nat):List Nat:=if u=0 then [] else dW u (eg u)
theorem Wo {u:Nat} (h:u≠0):zy u=zy (u/10)++[48+u%10]:=by
 unfold zy
 rw[if_neg h]
 by_cases q:u<10
 · rw[jK q,if_pos o!];rfl
 · rw[yF q,if_neg o!];rfl
theorem abh {u:Nat} (h:u<1000000000):(zy u).length≤9:=by
 unfold zy
 split
 · simp
 · rename_i q
   rw[fF]
   obtain ⟨_,h2,_⟩:=eM u q
   have:(10:Nat)^(eg u - 1)<10^9:=by omega
   have:=(Nat.pow_lt_pow_iff_right (by decide:1<10)).1 this
   omega
theorem AX (l m:List Nat):vv (l++m)=vv l++vv m:=by simp [vv]
theorem zY {d:Nat} {h:ah} {a:AV} {l:List Nat} {i:Nat} (ha:SW h a l) (gD:l.length<2^26) (hi:i<l.length - 1):∀(m k u:Nat) (s:List UInt8),k+m=9→u<1000000000→s.length+m<1000000000→∀x:Nat→AV,
 ∃y:Nat→AV,Ev env (aQ d) (.loop iX) ⟨(a::(x 1)::(x 2)::(AV.str s)::(ag i)::(ag u)::(ag k)::rx x 7 38 []),h,[],.no⟩ (.exit 2) ⟨(a::(y 1)::(y 2)::(AV.str (vv (dW u m)++s))::(ag i)::rx y 5 40 []),h,[],.no⟩
 | 0,k,u,s,hk,hu,hs,x=>by
  have q1:=cI ((k:Int)<9)
  have ev:=pk (d) iX (a::(x 1)::(x 2)::(AV.str s)::(ag i)::(ag u)::(ag k)::rx x 7 38 []) h (.exit 2) h (CC<|VV (bh 3 false true .i64 (k:Int) 9)<|CC<|BB q1<|BB q1<|BB q1<|BB q1<|BB q1<|BB q1<|BB q1<|VV (aL (a:=some aB) (b:=some (aj false)) q1)<|FF<|ZZ) k!
  exact cT (Ev.out ev) k!
 | m+1,k,u,s,hk,hu,hs,x=>by
  have q1:=dg ((k:Int)<9)
  have u2:=KQ 3 false true l.length 1 o! o!
  have q3:=dg ((i:Int)<((l.length - 1:Nat):Int))
  have u4:=VG 3 false true u 10 o!
  have u5:=fX 3 true false 48 (u%10) o!
  have cv6:=JW (N:=48+(u%10)) (JV o!) o!
  have u7:=rP 9 false false ([UInt8.ofNat (48+(u%10))]) s (by first | omega | (simp;omega))
  have u8:=Gr 3 false true u 10 o! o!
  have u9:=fX 3 false true k 1 o!
  have ev:=pk (d) iX (a::(x 1)::(x 2)::(AV.str s)::(ag i)::(ag u)::(ag k)::rx x 7 38 []) h .normal h (CC<|VV (bh 3 false true .i64 (k:Int) 9)<|CC<|BB q1<|CC<|BB q1<|CC<|BB q1<|VV (ha).len<|BB q1<|VV u2<|BB q1<|VV (bh 3 false false .i64 (i:Int) ((l.length - 1:Nat):Int))<|BB q1<|CC<|BB q3<|BB q3<|BB q1<|VV (aG (a:=some (aj true)) (b:=some aB) q3)<|VV (aG (a:=some (aj true)) (b:=some (aj false)) q1)<|TT<|CC<|VV u4<|VV u5<|CC<|QQ cv6<|CC<|VV u7<|CN 2<|VV u8<|CN 2<|VV u9<|CC<|ZZ) k!
  have e:vv (dW u (m+1))++s=vv (dW (u/10) m)++([UInt8.ofNat (48+(u%10))]++s):=by
   rw[dW,AX,List.append_assoc];rfl
  rw[e]
  exact bO ev k! fun x=>zY ha gD hi m (k+1) (u/10) _ o! o! (by simp;omega) x
theorem Co {d:Nat} {h:ah} {a:AV} {l:List Nat} {i:Nat} (ha:SW h a l) (gD:l.length<2^26) (hl:0<l.length) (hi:¬i<l.length - 1):∀(m k u:Nat) (s:List UInt8),k+m=9→u<10^m→s.length+m<1000000000→∀x:Nat→AV,
 ∃y:Nat→AV,Ev env (aQ d) (.loop iX) ⟨(a::(x 1)::(x 2)::(AV.str s)::(ag i)::(ag u)::(ag k)::rx x 7 38 []),h,[],.no⟩ (.exit 2) ⟨(a::(y 1)::(y 2)::(AV.str (vv (zy u)++s))::(ag i)::rx y 5 40 []),h,[],.no⟩
 | 0,k,u,s,hk,hu,hs,x=>by
  have e:vv (zy u)++s=s:=by rw[zy,if_pos (by simpa using hu)];rfl
  rw[e]
  have q1:=cI ((k:Int)<9)
  have ev:=pk (d) iX (a::(x 1)::(x 2)::(AV.str s)::(ag i)::(ag u)::(ag k)::rx x 7 38 []) h (.exit 2) h (CC<|VV (bh 3 false true .i64 (k:Int) 9)<|CC<|BB q1<|BB q1<|BB q1<|BB q1<|BB q1<|BB q1<|BB q1<|VV (aL (a:=some aB) (b:=some (aj false)) q1)<|FF<|ZZ) k!
  exact cT (Ev.out ev) k!
 | m+1,k,u,s,hk,hu,hs,x=>by
  have hp:(10:Nat)^m≤10^8:=Nat.pow_le_pow_right (by decide) o!
  rw[Nat.pow_succ] at hu
  by_cases q:0<u
  · have q1:=dg ((k:Int)<9)
    have u2:=KQ 3 false true l.length 1 o! o!
    have q3:=cI ((i:Int)<((l.length - 1:Nat):Int))
    have q4:=dg (0<(u:Int))
    have u5:=VG 3 false true u 10 o!
    have u6:=fX 3 true false 48 (u%10) o!
    have cv7:=JW (N:=48+(u%10)) (JV o!) o!
    have u8:=rP 9 false false ([UInt8.ofNat (48+(u%10))]) s (by first | omega | (simp;omega))
    have u9:=Gr 3 false true u 10 o! o!
    have BM:=fX 3 false true k 1 o!
    have ev:=pk (d) iX (a::(x 1)::(x 2)::(AV.str s)::(ag i)::(ag u)::(ag k)::rx x 7 38 []) h .normal h (CC<|VV (bh 3 false true .i64 (k:Int) 9)<|CC<|BB q1<|CC<|BB q1<|CC<|BB q1<|VV (ha).len<|BB q1<|VV u2<|BB q1<|VV (bh 3 false false .i64 (i:Int) ((l.length - 1:Nat):Int))<|BB q1<|CC<|BB q3<|CC<|BB q3<|VV (bM 3 false true .i64 (u:Int) 0)<|BB q1<|VV (aL (a:=some (aj true)) (b:=some (aj (decide (0<(u:Int))))) q3)<|VV (aG (a:=some (aj (decide (0<(u:Int))))) (b:=some (aj false)) q1)<|BB q4<|CC<|VV u5<|VV u6<|CC<|QQ cv7<|CC<|VV u8<|CN 2<|VV u9<|CN 2<|VV BM<|CC<|ZZ) k!
    have e:vv (zy u)++s=vv (zy (u/10))++([UInt8.ofNat (48+(u%10))]++s):=by
     rw[Wo o!,AX,List.append_assoc];rfl
    rw[e]
    exact bO ev k! fun x=>Co ha gD hl hi m (k+1) (u/10) _ o! o! (by simp;omega) x
  · have e:vv (zy u)++s=s:=by rw[zy,if_pos o!];rfl
    rw[e]
    have q1:=dg ((k:Int)<9)
    have u2:=KQ 3 false true l.length 1 o! o!
    have q3:=cI ((i:Int)<((l.length - 1:Nat):Int))
    have q4:=cI (0<(u:Int))
    have ev:=pk (d) iX (a::(x 1)::(x 2)::(AV.str s)::(ag i)::(ag u)::(ag k)::rx x 7 38 []) h (.exit 2) h (CC<|VV (bh 3 false true .i64 (k:Int) 9)<|CC<|BB q1<|CC<|BB q1<|CC<|BB q1<|VV (ha).len<|BB q1<|VV u2<|BB q1<|VV (bh 3 false false .i64 (i:Int) ((l.length - 1:Nat):Int))<|BB q1<|CC<|BB q3<|CC<|BB q3<|VV (bM 3 false true .i64 (u:Int) 0)<|BB q1<|VV (aL (a:=some (aj true)) (b:=some (aj (decide (0<(u:Int))))) q3)<|VV (aG (a:=some (aj (decide (0<(u:Int))))) (b:=some (aj false)) q1)<|BB q4<|ZZ) k!
    exact cT (Ev.out ev) k!
def wrL:List Nat→List Nat
 | []=> []
 | [u]=>zy u
 | u::v::r=>wrL (v::r)++dW u 9
theorem PM {u:Nat} {r:List Nat} (h:r≠ []):wrL (u::r)=wrL r++dW u 9:=by
 cases r with
 | nil=>exact absurd rfl h
 | cons v r=>rfl
theorem rq {d:Nat} {h:ah} {a:AV} {l:List Nat} (ha:SW h a l) (hl:0<l.length) (gD:l.length<2^26) (w:bS l):∀(m i:Nat) (s:List UInt8),i+m=l.length→s.length≤9*i→∀x:Nat→AV,
 ∃y:Nat→AV,Ev env (aQ d) (.loop pM) ⟨(a::(x 1)::(x 2)::(AV.str s)::(ag i)::rx x 5 40 []),h,[],.no⟩ (.exit 0) ⟨(rx y 0 3 ((AV.str (vv (wrL (l.drop i))++s))::rx y 4 41 [])),h,[],.no⟩
 | 0,i,s,hi,hs,x=>by
  have e:vv (wrL (l.drop i))++s=s:=by rw[List.drop_of_length_le o!];rfl
  rw[e]
  have q1:=cI ((i:Int)<((l.length:Nat):Int))
  have ev:=pk (d) pM (a::(x 1)::(x 2)::(AV.str s)::(ag i)::rx x 5 40 []) h (.exit 0) h (CN 2<|VV (ha).len<|VV (bh 3 false false .i64 (i:Int) ((l.length:Nat):Int))<|BB q1<|ZZ) k!
  exact cT (Ev.out ev) k!
 | m+1,i,s,hi,hs,x=>by
  have Ql:i<l.length:=by omega
  have hw:=w.at i
  have hd:=rn Ql
  by_cases q:i<l.length - 1
  · obtain ⟨s2,Rr⟩:∃s2,s2=vv (dW (l.getD i 0) 9)++s:=⟨_,rfl⟩
    have e:vv (wrL (l.drop i))++s=vv (wrL (l.drop (i+1)))++s2:=by
     rw[hd,PM (fun e=>by have:=congrArg List.length e;simp at this;omega),AX,Rr,List.append_assoc]
    rw[e]
    have q1:=dg ((i:Int)<((l.length:Nat):Int))
    obtain ⟨p2,q3,yX,vp⟩:=ha.j8 (i:Int) (show i<l.length by omega)
    obtain ⟨yl,cf⟩:=zY (d:=d) ha gD q 9 0 (l.getD i 0) s o! hw o! (fun k_=>((a::(x 1)::(x 2)::(AV.str s)::(ag i)::(ag (l.getD i 0))::(af 0)::rx x 7 3 ((ag i)::a::(ag l.length)::(aj (decide ((i:Int)<((l.length:Nat):Int))))::(x 14)::(x 15)::a::(ag i)::(AV.ptr p2 q3)::(ag (l.getD i 0))::rx x 20 25 [])):List AV).getD k_ aB)
    rw[←Rr] at cf
    have u6:=fX 3 false true i 1 o!
    have ev:=pk (d) pM (a::(x 1)::(x 2)::(AV.str s)::(ag i)::rx x 5 40 []) h .normal h (CN 2<|VV (ha).len<|VV (bh 3 false false .i64 (i:Int) ((l.length:Nat):Int))<|BB q1<|CN 2<|VV yX<|MM vp<|CN 2<|LL cf<|CC<|VV u6<|CC<|ZZ) k!
    exact bO ev k! fun x=>rq ha hl gD w m (i+1) s2 o! (by rw[Rr];simp [vv,fF];omega) x
  · obtain ⟨s2,Rr⟩:∃s2,s2=vv (zy (l.getD i 0))++s:=⟨_,rfl⟩
    have e:vv (wrL (l.drop i))++s=s2:=by
     rw[hd,List.drop_of_length_le o!,Rr];rfl
    have e2:vv (wrL (l.drop (i+1)))++s2=s2:=by rw[List.drop_of_length_le o!];rfl
    rw[e,←e2]
    have q1:=dg ((i:Int)<((l.length:Nat):Int))
    obtain ⟨p2,q3,yX,vp⟩:=ha.j8 (i:Int) (show i<l.length by omega)
    obtain ⟨yl,cf⟩:=Co (d:=d) ha gD hl q 9 0 (l.getD i 0) s o! o! o! (fun k_=>((a::(x 1)::(x 2)::(AV.str s)::(ag i)::(ag (l.getD i 0))::(af 0)::rx x 7 3 ((ag i)::a::(ag l.length)::(aj (decide ((i:Int)<((l.length:Nat):Int))))::(x 14)::(x 15)::a::(ag i)::(AV.ptr p2 q3)::(ag (l.getD i 0))::rx x 20 25 [])):List AV).getD k_ aB)
    rw[←Rr] at cf
    have u6:=fX 3 false true i 1 o!
    have ev:=pk (d) pM (a::(x 1)::(x 2)::(AV.str s)::(ag i)::rx x 5 40 []) h .normal h (CN 2<|VV (ha).len<|VV (bh 3 false false .i64 (i:Int) ((l.length:Nat):Int))<|BB q1<|CN 2<|VV yX<|MM vp<|CN 2<|LL cf<|CC<|VV u6<|CC<|ZZ) k!
    exact bO ev k! fun x=>rq ha hl gD w m (i+1) s2 o! (by have:=abh hw;rw[Rr,List.length_append,vv,List.length_map];omega) x
theorem abi:∀(k j n:Nat),dW n (j+k)=dW (n/10^k) j++dW n k
 | 0,j,n=>by simp [dW]
 | k+1,j,n=>by
  rw[show j+(k+1)=(j+k)+1 by omega,dW,abi k j (n/10),dW,Nat.div_div_eq_div_mul,Nat.pow_succ,Nat.mul_comm 10,List.append_assoc]
theorem abj:∀(k n:Nat),dW (n%10^k) k=dW n k
 | 0,n=>rfl
 | k+1,n=>by
  rw[dW,dW]
  have e1:n%10^(k+1) /10=n/10%10^k:=by rw[Nat.pow_succ,Nat.mul_comm,Nat.mod_mul_right_div_self]
  have e2:n%10^(k+1)%10=n%10:=Nat.mod_mod_of_dvd _ (by rw[Nat.pow_succ];exact Nat.dvd_mul_left _ _)
  rw[e1,e2,abj k (n/10)]
theorem adF {n m K:Nat} (hm:m≠0) (h1:m*10^K≤n) (h2:n<(m+1)*10^K):eg n=eg m+K:=by
 obtain ⟨b1,b2,b3⟩:=eM m hm
 obtain ⟨j,hj⟩:∃j,eg m=j+1:=⟨eg m - 1,by omega⟩
 rw[hj] at b2 b3 ⊢
 rw[show j+1+K=(j+K)+1 by omega]
 refine l9 (j+K) n ?_ ?_
 · rw[Nat.pow_add]
   exact Nat.le_trans (Nat.mul_le_mul_right _ (by simpa using b2)) h1
 · rw[show j+K+1=(j+1)+K by omega,Nat.pow_add]
   exact Nat.lt_of_lt_of_le h2 (Nat.mul_le_mul_right _ b3)
theorem agU (n:Nat):n≠0→wrL (nW n)=dW n (eg n):=by
 induction n using Nat.strongRecOn with
 | ind n ih=>
  intro hn
  rw[AR hn]
  by_cases q:n/1000000000=0
  · rw[q,eO]
    show zy (n%1000000000)=_
    rw[show n%1000000000=n by omega,zy,if_neg hn]
  · rw[PM (fun e=>q (nM.1 e)),ih _ (Nat.div_lt_self o! (by decide)) q,adF (K:=9) (n:=n) (m:=n/1000000000) q o! o!,abi,show (10:Nat)^9=1000000000 by decide]
    have:=abj 9 n
    rw[show (10:Nat)^9=1000000000 by decide] at this
    rw[this]
theorem ie {d:Nat} {h:ah} {a:AV} {n:Nat} (ha:SW h a (nW n)) (gD:(nW n).length<2^26):aQ (d+1) (.fn 33) [a] h= .ret (.str (bf n)) h:=by
 by_cases q:n=0
 · have I2:(nW n).length=0:=by rw[q,eO];rfl
   have e:bf n=[48]:=by rw[q];show vv (dW 0 (eg 0))=[48];rw[jK (by decide)];rfl
   rw[e]
   generalize nW n=l at *
   have q1:=dg (((l.length:Nat):Int)=0)
   have ev:=pk (d) kM (a::aV 44) h .ret h (CN 2<|VV (ha).len<|VV (bQ 3 false true .i64 ((l.length:Nat):Int) 0)<|BB q1<|CC<|ZZ) k!
   exact ai rfl (az Tryz.func33 HU k! (.inr rfl) ev k!) (Has.refl _) rfl
 · have I2:0<(nW n).length:=List.length_pos_iff.2 fun e=>q (nM.1 e)
   have hL:=agU n q
   have w:=eS n
   obtain ⟨s2,Rr⟩:∃s2,s2=bf n:=⟨_,rfl⟩
   have e:vv (wrL ((nW n).drop 0))++[]=s2:=by rw[List.drop_zero,hL,Rr,List.append_nil];rfl
   rw[←Rr]
   generalize nW n=l at *
   obtain ⟨yl,cf⟩:=rq (d:=d) ha I2 gD w l.length 0 [] o! (by simp) (fun k_=>((a::aB::(AV.str [])::(AV.str [])::(af 0)::aB::aB::a::(ag l.length)::(aj (decide (((l.length:Nat):Int)=0)))::aV 35):List AV).getD k_ aB)
   rw[e] at cf
   have q1:=cI (((l.length:Nat):Int)=0)
   have ev:=pk (d) kM (a::aV 44) h .ret h (CN 2<|VV (ha).len<|VV (bQ 3 false true .i64 ((l.length:Nat):Int) 0)<|BB q1<|CN 2<|LL cf<|CN 2<|ZZ) k!
   exact ai rfl (az Tryz.func33 HU k! (.inr rfl) ev k!) (Has.refl _) rfl
noncomputable def lE:Code:=(Tryz.f10.body).getD .skip
theorem yR:Tryz.f10.body=some lE:=by kernel_rfl
theorem abk {n:Nat}:eg n≤9*(nW n).length+1:=by
 by_cases q:n=0
 · rw[q,jK (by decide)];omega
 · obtain ⟨_,h2,_⟩:=eM n q
   have h3:=Ux n
   have:(10:Nat)^(eg n - 1)<10^(9*(nW n).length):=by rw[Nat.pow_mul,show (10:Nat)^9=1000000000 from rfl];omega
   have:=(Nat.pow_lt_pow_iff_right (by decide:1<10)).1 this
   omega
theorem PN (n:Nat):(bf n).length≤9*(nW n).length+1:=by
 have:=abk (n:=n)
 rw[bf,vv,List.length_map,fF];exact this
def eT (m:Bool) (A D:Nat):List UInt8:=(if m then [45]++bf A else bf A)++(if D=1 then [] else [47]++bf D)
theorem mZ {d:Nat} {h:ah} {m:Bool} {z1 z2:AV} {A D:Nat} (n1:SW h z1 (nW A)) (n2:SW h z2 (nW D)) (lA:(nW A).length<2^26) (lD:(nW D).length<2^26) (aw:Tidy h):aQ (d+2) (.fn 10) [.agg [.bool m,z1,z2]] h= .ret (.str (eT m A D)) h:=by
 have sA:=PN A
 have sD:=PN D
 by_cases q:(nW D).length=1
 · have eD:=yO (n:=D) o!
   by_cases cD:D=1
   · have e:eT m A D=(if m then [45]++bf A else bf A):=by rw[eT,if_pos cD,List.append_nil]
     rw[e]
     cases m with
     | true=>
      obtain ⟨h1,aO,aK,bm,aC,ck⟩:=de aw (ar.cells [(aj true),z1,z2] 32 false)
      have aD:Has h h1:=ck
      have kw2:=ie (d:=d) (h:=h1) (n1.has aD) lA
      have u3:=rP 9 true false [45] (bf A) (by first | omega | (simp;omega))
      have q4:=TJ ((((nW D).length:Nat):Int)=1)
      obtain ⟨p5,q6,N5,Jw⟩:=((n2.has aD)).j8 0 (show 0<(nW D).length by omega)
      rw[eD] at Jw
      have q9:=TJ ((D:Int)=1)
      have ev:=pk (d+1) lE ((AV.agg [(aj true),z1,z2])::aV 28) h .ret h1 (NN aO (fun i=>(AV.ptr i 0))<|CN 2<|MM (aJ 30 1 z1 aC k!)<|EE kw2<|CN 2<|MM (aJ 4 0 (aj true) aC k!)<|TT<|CC<|VV u3<|CN 2<|MM (aJ 30 2 z2 aC k!)<|VV ((n2.has aD)).len<|VV (jb 3 false true .i64 (((nW D).length:Nat):Int) 1)<|CC<|BB q4<|CC<|BB q4<|MM (aJ 30 2 z2 aC k!)<|BB q4<|VV N5<|BB q4<|MM Jw<|BB q4<|VV (jb 3 false true .i64 (D:Int) 1)<|VV (aL (a:=some (aj true)) (b:=some (aj (!decide ((D:Int)=1)))) q4)<|BB q9<|CN 2<|ZZ) k!
      exact ai rfl (az Tryz.func10 yR k! (.inr rfl) ev k!) aD rfl
     | false=>
      obtain ⟨h1,aO,aK,bm,aC,ck⟩:=de aw (ar.cells [(aj false),z1,z2] 32 false)
      have aD:Has h h1:=ck
      have kw2:=ie (d:=d) (h:=h1) (n1.has aD) lA
      have q3:=TJ ((((nW D).length:Nat):Int)=1)
      obtain ⟨p4,q5,R5,T'⟩:=((n2.has aD)).j8 0 (show 0<(nW D).length by omega)
      rw[eD] at T'
      have q8:=TJ ((D:Int)=1)
      have ev:=pk (d+1) lE ((AV.agg [(aj false),z1,z2])::aV 28) h .ret h1 (NN aO (fun i=>(AV.ptr i 0))<|CN 2<|MM (aJ 30 1 z1 aC k!)<|EE kw2<|CN 2<|MM (aJ 4 0 (aj false) aC k!)<|FF<|CC<|MM (aJ 30 2 z2 aC k!)<|VV ((n2.has aD)).len<|VV (jb 3 false true .i64 (((nW D).length:Nat):Int) 1)<|CC<|BB q3<|CC<|BB q3<|MM (aJ 30 2 z2 aC k!)<|BB q3<|VV R5<|BB q3<|MM T'<|BB q3<|VV (jb 3 false true .i64 (D:Int) 1)<|VV (aL (a:=some (aj true)) (b:=some (aj (!decide ((D:Int)=1)))) q3)<|BB q8<|CN 2<|ZZ) k!
      exact ai rfl (az Tryz.func10 yR k! (.inr rfl) ev k!) aD rfl
   · have e:eT m A D=(if m then [45]++bf A else bf A)++([47]++bf D):=by rw[eT,if_neg cD]
     rw[e]
     cases m with
     | true=>
      obtain ⟨h1,aO,aK,bm,aC,ck⟩:=de aw (ar.cells [(aj true),z1,z2] 32 false)
      have aD:Has h h1:=ck
      have kw2:=ie (d:=d) (h:=h1) (n1.has aD) lA
      have u3:=rP 9 true false [45] (bf A) (by first | omega | (simp;omega))
      have q4:=TJ ((((nW D).length:Nat):Int)=1)
      obtain ⟨p5,q6,N5,Jw⟩:=((n2.has aD)).j8 0 (show 0<(nW D).length by omega)
      rw[eD] at Jw
      have q9:=W0 ((D:Int)=1)
      have amh:=ie (d:=d) (h:=h1) (n2.has aD) lD
      have nk:=rP 9 true false [47] (bf D) (by first | omega | (simp;omega))
      have Oj:=rP 9 false false ([45]++(bf A)) ([47]++(bf D)) (by first | omega | (simp;omega))
      have ev:=pk (d+1) lE ((AV.agg [(aj true),z1,z2])::aV 28) h .ret h1 (NN aO (fun i=>(AV.ptr i 0))<|CN 2<|MM (aJ 30 1 z1 aC k!)<|EE kw2<|CN 2<|MM (aJ 4 0 (aj true) aC k!)<|TT<|CC<|VV u3<|CN 2<|MM (aJ 30 2 z2 aC k!)<|VV ((n2.has aD)).len<|VV (jb 3 false true .i64 (((nW D).length:Nat):Int) 1)<|CC<|BB q4<|CC<|BB q4<|MM (aJ 30 2 z2 aC k!)<|BB q4<|VV N5<|BB q4<|MM Jw<|BB q4<|VV (jb 3 false true .i64 (D:Int) 1)<|VV (aL (a:=some (aj true)) (b:=some (aj (!decide ((D:Int)=1)))) q4)<|BB q9<|CN 2<|MM (aJ 30 2 z2 aC k!)<|EE amh<|VV nk<|VV Oj<|CN 3<|ZZ) k!
      exact ai rfl (az Tryz.func10 yR k! (.inr rfl) ev k!) aD rfl
     | false=>
      obtain ⟨h1,aO,aK,bm,aC,ck⟩:=de aw (ar.cells [(aj false),z1,z2] 32 false)
      have aD:Has h h1:=ck
      have kw2:=ie (d:=d) (h:=h1) (n1.has aD) lA
      have q3:=TJ ((((nW D).length:Nat):Int)=1)
      obtain ⟨p4,q5,R5,T'⟩:=((n2.has aD)).j8 0 (show 0<(nW D).length by omega)
      rw[eD] at T'
      have q8:=W0 ((D:Int)=1)
      have kw9:=ie (d:=d) (h:=h1) (n2.has aD) lD
      have BM:=rP 9 true false [47] (bf D) (by first | omega | (simp;omega))
      have nk:=rP 9 false false (bf A) ([47]++(bf D)) (by first | omega | (simp;omega))
      have ev:=pk (d+1) lE ((AV.agg [(aj false),z1,z2])::aV 28) h .ret h1 (NN aO (fun i=>(AV.ptr i 0))<|CN 2<|MM (aJ 30 1 z1 aC k!)<|EE kw2<|CN 2<|MM (aJ 4 0 (aj false) aC k!)<|FF<|CC<|MM (aJ 30 2 z2 aC k!)<|VV ((n2.has aD)).len<|VV (jb 3 false true .i64 (((nW D).length:Nat):Int) 1)<|CC<|BB q3<|CC<|BB q3<|MM (aJ 30 2 z2 aC k!)<|BB q3<|VV R5<|BB q3<|MM T'<|BB q3<|VV (jb 3 false true .i64 (D:Int) 1)<|VV (aL (a:=some (aj true)) (b:=some (aj (!decide ((D:Int)=1)))) q3)<|BB q8<|CN 2<|MM (aJ 30 2 z2 aC k!)<|EE kw9<|VV BM<|VV nk<|CN 3<|ZZ) k!
      exact ai rfl (az Tryz.func10 yR k! (.inr rfl) ev k!) aD rfl
 · have cD:¬D=1:=fun e=>q (by rw[e,mS (by decide) (by decide)];rfl)
   have e:eT m A D=(if m then [45]++bf A else bf A)++([47]++bf D):=by rw[eT,if_neg cD]
   rw[e]
   cases m with
   | true=>
    obtain ⟨h1,aO,aK,bm,aC,ck⟩:=de aw (ar.cells [(aj true),z1,z2] 32 false)
    have aD:Has h h1:=ck
    have kw2:=ie (d:=d) (h:=h1) (n1.has aD) lA
    have u3:=rP 9 true false [45] (bf A) (by first | omega | (simp;omega))
    have q4:=W0 ((((nW D).length:Nat):Int)=1)
    have kw5:=ie (d:=d) (h:=h1) (n2.has aD) lD
    have u6:=rP 9 true false [47] (bf D) (by first | omega | (simp;omega))
    have u7:=rP 9 false false ([45]++(bf A)) ([47]++(bf D)) (by first | omega | (simp;omega))
    have ev:=pk (d+1) lE ((AV.agg [(aj true),z1,z2])::aV 28) h .ret h1 (NN aO (fun i=>(AV.ptr i 0))<|CN 2<|MM (aJ 30 1 z1 aC k!)<|EE kw2<|CN 2<|MM (aJ 4 0 (aj true) aC k!)<|TT<|CC<|VV u3<|CN 2<|MM (aJ 30 2 z2 aC k!)<|VV ((n2.has aD)).len<|VV (jb 3 false true .i64 (((nW D).length:Nat):Int) 1)<|CC<|BB q4<|BB q4<|BB q4<|BB q4<|BB q4<|VV (aG (a:=some (aj true)) (b:=some aB) q4)<|TT<|CN 2<|MM (aJ 30 2 z2 aC k!)<|EE kw5<|VV u6<|VV u7<|CN 3<|ZZ) k!
    exact ai rfl (az Tryz.func10 yR k! (.inr rfl) ev k!) aD rfl
   | false=>
    obtain ⟨h1,aO,aK,bm,aC,ck⟩:=de aw (ar.cells [(aj false),z1,z2] 32 false)
    have aD:Has h h1:=ck
    have kw2:=ie (d:=d) (h:=h1) (n1.has aD) lA
    have q3:=W0 ((((nW D).length:Nat):Int)=1)
    have kw4:=ie (d:=d) (h:=h1) (n2.has aD) lD
    have u5:=rP 9 true false [47] (bf D) (by first | omega | (simp;omega))
    have u6:=rP 9 false false (bf A) ([47]++(bf D)) (by first | omega | (simp;omega))
    have ev:=pk (d+1) lE ((AV.agg [(aj false),z1,z2])::aV 28) h .ret h1 (NN aO (fun i=>(AV.ptr i 0))<|CN 2<|MM (aJ 30 1 z1 aC k!)<|EE kw2<|CN 2<|MM (aJ 4 0 (aj false) aC k!)<|FF<|CC<|MM (aJ 30 2 z2 aC k!)<|VV ((n2.has aD)).len<|VV (jb 3 false true .i64 (((nW D).length:Nat):Int) 1)<|CC<|BB q3<|BB q3<|BB q3<|BB q3<|BB q3<|VV (aG (a:=some (aj true)) (b:=some aB) q3)<|TT<|CN 2<|MM (aJ 30 2 z2 aC k!)<|EE kw4<|VV u5<|VV u6<|CN 3<|ZZ) k!
    exact ai rfl (az Tryz.func10 yR k! (.inr rfl) ev k!) aD rfl
noncomputable def HV:Code:=(Tryz.f11.body).getD .skip
theorem afj:Tryz.f11.body=some HV:=by kernel_rfl
theorem tW.new {h h':ah} {z:AV} {l:List Nat} (o:tW .i64 3 h h' z l):mm h z:=by
 rcases o with ⟨rfl,_⟩ | ⟨_,p,op,rfl,h1,_⟩
 · exact mm.nil
 · exact mm.slice h1
theorem JX (i:Nat):AV.slice i 0 1 1 false= .ax∨∃p o n c b',AV.slice i 0 1 1 false= .slice p o n c b'∧(b'=true→0<c):= .inr ⟨_,_,_,_,_,rfl,fun e=>by cases e⟩
theorem SZ {a b:AV} (ka:a= .ax∨∃p o n c b',a= .slice p o n c b'∧(b'=true→0<c)) (kb:b= .ax∨∃p o n c b',b= .slice p o n c b'∧(b'=true→0<c)):sF env 32 [(1,a),(2,b)]=some (.agg [.bool false,a,b]):=by
 rcases ka with rfl | ⟨p,o,n,c,b1,rfl,_⟩<;>rcases kb with rfl | ⟨p',o',n',c',b2,rfl,_⟩<;>kernel_rfl
theorem ajJ {d:Nat} {h:ah} {z:Int} (Ij: -9223372036854775808≤z) (hz2:z<9223372036854775808) (aw:Tidy h):
 ∃z1 z2 hk,aQ (d+2) (.fn 11) [.int .i64 z] h= .ret (.agg [.bool (decide (z<0)),z1,z2]) hk∧Grow h hk∧SW hk z1 (nW z.natAbs)∧SW hk z2 (nW 1):=by
 obtain ⟨u,hu⟩:∃u,u=z.natAbs:=⟨_,rfl⟩
 by_cases q:z<0
 · have e1:IntKind.u64.wrap (IntKind.i64.wrap (0 -(z+1)))=((u - 1:Nat):Int):=by
    rw[wrap_i64 o! o!,mW];omega
   obtain ⟨h1,aO,aK,bm,aC,ck⟩:=de aw (ar.cells [(aj false),bE,bE] 32 false)
   have aD:Has h h1:=ck
   have q2:=dg (z<0)
   have w3:=fS (z+1)
   have u4:aI env .add 54 false true (some (aa (IntKind.u64.wrap (IntKind.i64.wrap (0 -(z+1)))))) (some (aa 1))=some (ae ((u - 1)+1)):=Bw (a:=(u - 1)) (b:=1) e1 rfl o!
   obtain ⟨zs_,h5,pD,g_,oz⟩:=Uw (d:=d) (h:=h1) (u:=((u - 1)+1)) o! aK
   have fA:=g_.y
   have V7:=g_.n
   have nz:=oz.aA (by have:=jS (n:=u) (k:=3) o!;first | omega | (rw[show u - 1+1=u by omega];omega)) k! k!
   have nwz:=tW.new oz
   have ep:=aD.trans g_.a
   obtain ⟨h6,uY,dh,wP,j9,gT⟩:=de fA (ar.cells [(af 1)] 3 false)
   have dK:=ep.trans gT
   have bd7:sF env 32 [(0,(aj true)),(1,zs_),(2,(AV.slice h5.nx 0 1 1 false))]=some (AV.agg [(aj true),zs_,(AV.slice h5.nx 0 1 1 false)]):=yQ nz.known (JX _)
   have sc9:AV.scalar zs_=true:=(ao.tZ nz)
   obtain ⟨h8,sW,eQ,BE,nI,gQ⟩:=b9 (t:=32) (n:=3) (i:=h.nx) (L:=[(aj true),zs_,(AV.slice h5.nx 0 1 1 false)]) dh (gT _ _ (g_.a _ _ aC)) k! rfl rfl z!
   have jl:=Has.ak dK gQ aw o!
   have ev:=pk (d+1) HV ((af z)::aV 19) h .ret h8 (NN aO (fun i=>(AV.ptr i 0))<|CC<|VV (bh 2 false true .i64 z 0)<|BB q2<|CC<|VV (iI 2 false true w3)<|CN 2<|VV u4<|CN 2<|EE pD<|NN uY (fun i=>(AV.slice i 0 1 1 false))<|QQ bd7<|SS sW<|ZZ) k!
   rw[decide_eq_true q,←hu]
   rw[show u - 1+1=u by omega] at nz
   have n2:SW h8 (.slice h5.nx 0 1 1 false) (nW 1):=by rw[mS (by decide) (by decide)];exact fi (op:=false) (gQ _ _ o! j9)
   have n1:=((nz.has (bu fA uY)).kept gQ (nwz _ o!))
   obtain ⟨hk,k1,k2,k3,k4⟩:=t_ rfl (bn (a:=2) (t:=32) Tryz.func11 afj k! (.inr rfl) ev k! (aN nI k!)) aw ⟨eQ,jl,by omega⟩ n1 n2 (.inr (nwz.mono o!)) (.inr (mm.slice o!))
   exact ⟨_,_,hk,k1,k2,k3,k4⟩
 · have e2:IntKind.u64.wrap z=(u:Int):=by rw[mW];omega
   obtain ⟨h1,aO,aK,bm,aC,ck⟩:=de aw (ar.cells [(aj false),bE,bE] 32 false)
   have aD:Has h h1:=ck
   have q2:=cI (z<0)
   obtain ⟨zs_,h3,pA,fZ,oz⟩:=Uw (d:=d) (h:=h1) (u:=u) o! aK
   have bt:=fZ.y
   have uL:=fZ.n
   have nz:=oz.aA (by have:=jS (n:=u) (k:=3) o!;first | omega | (rw[show u - 1+1=u by omega];omega)) k! k!
   have nwz:=tW.new oz
   rw[←e2] at pA
   have aX:=aD.trans fZ.a
   obtain ⟨h4,sS,gk,wL,jH,sU⟩:=de bt (ar.cells [(af 1)] 3 false)
   have iy:=aX.trans sU
   have bd5:sF env 32 [(1,zs_),(2,(AV.slice h3.nx 0 1 1 false))]=some (AV.agg [(aj false),zs_,(AV.slice h3.nx 0 1 1 false)]):=SZ nz.known (JX _)
   have sc7:AV.scalar zs_=true:=(ao.tZ nz)
   obtain ⟨h6,AD,dh,wP,j9,qv⟩:=b9 (t:=32) (n:=3) (i:=h.nx) (L:=[(aj false),zs_,(AV.slice h3.nx 0 1 1 false)]) gk (sU _ _ (fZ.a _ _ aC)) k! rfl rfl z!
   have dK:=Has.ak iy qv aw o!
   have ev:=pk (d+1) HV ((af z)::aV 19) h .ret h6 (NN aO (fun i=>(AV.ptr i 0))<|CC<|VV (bh 2 false true .i64 z 0)<|BB q2<|CN 2<|EE pA<|NN sS (fun i=>(AV.slice i 0 1 1 false))<|QQ bd5<|SS AD<|ZZ) k!
   rw[decide_eq_false q,←hu]
   have n2:SW h6 (.slice h3.nx 0 1 1 false) (nW 1):=by rw[mS (by decide) (by decide)];exact fi (op:=false) (qv _ _ o! jH)
   have n1:=((nz.has (bu bt sS)).kept qv (nwz _ o!))
   obtain ⟨hk,k1,k2,k3,k4⟩:=t_ rfl (bn (a:=2) (t:=32) Tryz.func11 afj k! (.inr rfl) ev k! (aN j9 k!)) aw ⟨dh,dK,by omega⟩ n1 n2 (.inr (nwz.mono o!)) (.inr (mm.slice o!))
   exact ⟨_,_,hk,k1,k2,k3,k4⟩
noncomputable def cQ:Code:=(Tryz.f31.body).getD .skip
theorem ga:Tryz.f31.body=some cQ:=by kernel_rfl
def nu (s:List UInt8):Bool:=(s.map UInt8.toNat).all oc&& !decide (s=[])
theorem d_ {s:List UInt8} (h:nu s=true):jy (cL s):=by
 simp only[nu,Bool.and_eq_true,List.all_eq_true] at h
 intro c hc
 have:=h.1 c hc
 simp only[oc,Bool.and_eq_true,decide_eq_true_eq] at this
 exact this
theorem ke {s:List UInt8} {A:Nat} (hd:jy (cL s)) (hA:A=bJ (cL s)):(nW A).length≤s.length:=by
 rw[hA]
 refine jS (Nat.lt_of_lt_of_le (pC hd) ?_)
 rw[fM]
 exact Nat.pow_le_pow_left (by decide) _
theorem dg1:jy (cL [49]):=fun c hc=>by
 have:c=49:=by simpa [cL] using hc
 subst this;decide
theorem kf {d:Nat} {h:ah} {s:List UInt8} (hs:s.length<1000000) (hd:jy (cL s)) (aw:Tidy h):∃r hk,aQ (d+2) (.fn 27) [.str s] h= .ret r hk∧Grow h hk∧SW hk r (nW (bJ (cL s)))∧mm h r:=by
 obtain ⟨r,hk,k1,k2,k3,k4⟩:=agM (d:=d) hs hd aw
 have:=adv hd
 rw[fM] at this
 rw[this] at k3
 exact ⟨r,hk,k1,k2,k3,k4⟩
theorem JY {d:Nat} {h:ah} {s:List UInt8} (hs:s.length<2^60):aQ (d+1) (.fn 25) [.str s,.int .u8 47] h= .ret (.tuple [.str (cutAt 47 s).1,.str (cutAt 47 s).2.1,.bool (cutAt 47 s).2.2]) h:=by
 have:=aaR (d:=d) (h:=h) (s:=s) (b:=47) hs
 exact this
theorem Cp {b:Bool} {z1 z2:AV} (ka:z1= .ax∨∃p o n c b',z1= .slice p o n c b'∧(b'=true→0<c)) (kb:z2= .ax∨∃p o n c b',z2= .slice p o n c b'∧(b'=true→0<c)):AV.same 20 (.agg [.bool b,z1,z2]) (.agg [.bool b,z1,z2])=true:=by
 rcases ka with rfl | ⟨p,o,n,c,b1,rfl,_⟩<;>rcases kb with rfl | ⟨p',o',n',c',b2,rfl,_⟩<;>simp [AV.same,dL]
def Cq (s:List UInt8) (ng:Bool) (A D:Nat):Option (Bool×Nat×Nat):=
 if eT (ng&&decide (A≠0)) (A/Nat.gcd A D) (D/Nat.gcd A D)=s then some (ng&&decide (A≠0),A/Nat.gcd A D,D/Nat.gcd A D) else none
def IP (s:List UInt8):Option (Bool×Nat×Nat):=
 if nu (cutAt 47 (aH s)).1=true then
  if (cutAt 47 (aH s)).2.2=true then
   if nu (cutAt 47 (aH s)).2.1=true then
    if bJ (cL (cutAt 47 (aH s)).2.1)=0 then none else Cq s (decide (s.head?=some 45)) (bJ (cL (cutAt 47 (aH s)).1)) (bJ (cL (cutAt 47 (aH s)).2.1))
   else none
  else Cq s (decide (s.head?=some 45)) (bJ (cL (cutAt 47 (aH s)).1)) 1
 else none
theorem jU {s ab be:List UInt8} {sp da db ng:Bool} {A B:Nat} (fW:ab=(cutAt 47 (aH s)).1) (h_:be=(cutAt 47 (aH s)).2.1) (ic:sp=(cutAt 47 (aH s)).2.2) (jL:da=nu ab) (kj:db=nu be) (hZ:ng=decide (s.head?=some 45)) (hA:A=bJ (cL ab)) (hB:B=bJ (cL be)):
 IP s=if da=true then (if sp=true then (if db=true then (if B=0 then none else Cq s ng A B) else none) else Cq s ng A 1) else none:=by
 subst hA hB jL kj fW h_ ic hZ
 rfl
theorem PO {s tx:List UInt8} {ng c mq db:Bool} {A B D:Nat} (hD:D=1) (nQ:(c&&decide (A≠0))=mq) (hc:c=ng) (s6:tx=eT mq (A/Nat.gcd A D) (D/Nat.gcd A D)):(if true=true then (if false=true then (if db=true then (if B=0 then none else Cq s ng A B) else none) else Cq s ng A 1) else none)=if tx=s then some (mq,A/Nat.gcd A D,D/Nat.gcd A D) else none:=by
 subst hD nQ hc s6
 rfl
theorem PQ {s tx:List UInt8} {ng c mq:Bool} {A B D:Nat} (hB:B=D) (o8:D≠0) (nQ:(c&&decide (A≠0))=mq) (hc:c=ng) (s6:tx=eT mq (A/Nat.gcd A D) (D/Nat.gcd A D)):(if true=true then (if true=true then (if true=true then (if B=0 then none else Cq s ng A B) else none) else Cq s ng A 1) else none)=if tx=s then some (mq,A/Nat.gcd A D,D/Nat.gcd A D) else none:=by
 subst hB nQ hc s6
 rw[if_pos rfl,if_pos rfl,if_pos rfl,if_neg o8]
 rfl
def JZ (z:AV):Prop:=z= .ax∨∃p o n c b',z= .slice p o n c b'∧(b'=true→0<c)
def S0 (d:Nat) (h:ah) (s:List UInt8):Prop:=∃b z1 z2 hk,aQ (d+1) (.fn 31) [.str s] h= .ret (.tuple [.agg [.bool b,z1,z2],.bool (IP s).isSome]) hk∧Grow h hk∧(∀m A D,IP s=some (m,A,D)→b=m∧SW hk z1 (nW A)∧SW hk z2 (nW D))∧JZ z1∧JZ z2
theorem m7 {d:Nat} {h h':ah} {s:List UInt8} (hd:mz env (aQ d) 31 [.str s] h (.tuple [.agg [.bool false,.ax,.ax],.bool false]) h') (y:Tidy h) (g:Grow h h') (e:IP s=none):S0 d h s:=by
 refine ⟨false,.ax,.ax,h,?_,Grow.refl y,(fun m A D e'=>by rw[e] at e';cases e'),.inl rfl,.inl rfl⟩
 rw[e]
 exact ai rfl hd g.a rfl
theorem Cr {d:Nat} {h h':ah} {s tx:List UInt8} {b:Bool} {z1 z2:AV} {A D:Nat} (hd:mz env (aQ d) 31 [.str s] h (.tuple [.agg [.bool b,z1,z2],.bool (decide (tx=s))]) h') (y:Tidy h) (g:Grow h h') (n1:SW h' z1 (nW A)) (n2:SW h' z2 (nW D)) (w1:mm h z1) (w2:mm h z2) (e:IP s=if tx=s then some (b,A,D) else none):S0 d h s:=by
 have ei:(IP s).isSome=decide (tx=s):=by
  rw[e];by_cases q:tx=s
  · rw[if_pos q,decide_eq_true q];rfl
  · rw[if_neg q,decide_eq_false q];rfl
 obtain ⟨hk,k1,k2,k3,k4⟩:=aU rfl hd y g (P:=fun hh=>SW hh z1 (nW A)∧SW hh z2 (nW D)) ⟨n1,n2⟩ fun v=>by
  have v':AV.within h.nx 20 (.agg [.bool b,z1,z2])=true:=iW v
  exact ⟨SW.back n1 w1 (vj v').1,SW.back n2 w2 (vj v').2⟩
 refine ⟨b,z1,z2,hk,by rw[ei];exact k1,k2,fun m A' D' e'=>?_,n1.known,n2.known⟩
 rw[e] at e'
 split at e'
 · simp only[Option.some.injEq,Prod.mk.injEq] at e'
   obtain ⟨rfl,rfl,rfl⟩:=e'
   exact ⟨rfl,k3,k4⟩
 · cases e'
theorem Wq {d:Nat} {h:ah} {s:List UInt8} (hs:s.length≤50000) (aw:Tidy h):S0 (d+7) h s:=by
 obtain ⟨ab,fW⟩:∃ab,ab=(cutAt 47 (aH s)).1:=⟨_,rfl⟩
 obtain ⟨be,h_⟩:∃be,be=(cutAt 47 (aH s)).2.1:=⟨_,rfl⟩
 obtain ⟨sp,ic⟩:∃sp,sp=(cutAt 47 (aH s)).2.2:=⟨_,rfl⟩
 have hlu:(aH s).length≤s.length:=by unfold aH;split<;>simp
 obtain ⟨l1,l2⟩:=jT 47 (aH s)
 rw[←fW] at l1
 rw[←h_] at l2
 obtain ⟨da,jL⟩:∃da,da=nu ab:=⟨_,rfl⟩
 obtain ⟨db,kj⟩:∃db,db=nu be:=⟨_,rfl⟩
 have kDa:∀hh,aQ (d+7) (.fn 26) [.str ab] hh= .ret (.bool da) hh:=fun hh=>by rw[jL];exact jg (d:=d+6) o!
 have kDb:∀hh,aQ (d+7) (.fn 26) [.str be] hh= .ret (.bool db) hh:=fun hh=>by rw[kj];exact jg (d:=d+6) o!
 have kD1:∀hh,aQ (d+7) (.fn 26) [.str [49]] hh= .ret (.bool true) hh:=fun hh=>jg (d:=d+6) (s:=[49]) (by decide)
 by_cases q:s=[]
 · have A5:aH s=s:=by rw[q];rfl
   have g1:(!decide (s=[]))=false:=by rw[decide_eq_true q];rfl
   have g2:(!sp)=true:=by rw[ic,q];rfl
   have g3:(!da)=true:=by rw[jL,fW,q];rfl
   have kC:∀hh,aQ (d+7) (.fn 25) [.str s,.int .u8 47] hh= .ret (.tuple [.str ab,.str be,.bool sp]) hh:=fun hh=>by
    rw[fW,h_,ic,A5]
    exact JY (d:=d+6) o!
   obtain ⟨h1,aO,aK,bm,aC,ck⟩:=de aw (ar.cells [(aj false),bE,bE] 32 false)
   have aD:Has h h1:=ck
   have q2:(decide (100002<((List.length s:Nat):Int)))=false:=d!
   have q3:(!decide (s=[]))=false:=d!
   have PS:=kC h1
   have q4:(!sp)=true:=d!
   have vl:=kDa h1
   have q5:(!da)=true:=d!
   obtain ⟨h6,AD,dh,wP,j9,qv⟩:=b9 (t:=32) (n:=3) (i:=h.nx) (L:=[(aj false),bE,bE]) aK aC k! rfl rfl z!
   have dK:=Has.ak aD qv aw o!
   have ev:=pk (d+7) cQ ((AV.str s)::aV 68) h .ret h6 (NN aO (fun i=>(AV.ptr i 0))<|CN 5<|VV (bM 3 false true .i64 ((List.length s:Nat):Int) 100002)<|BB q2<|CC<|VV (VF 9 false true s [])<|CC<|BB q3<|BB q3<|BB q3<|VV (aL (a:=some aB) (b:=some (aj false)) q3)<|CN 2<|FF<|CC<|EE PS<|CN 9<|BB q4<|CN 2<|EE vl<|CN 2<|BB q5<|BB q5<|BB q5<|VV (aG (a:=some (aj true)) (b:=some aB) q5)<|CC<|TT<|TT<|TT<|CN 2<|TT<|TT<|TT<|CC<|TT<|CC<|SS AD<|CC<|ZZ) k!
   exact m7 (cK (a:=2) (b:=3) (t:=32) Tryz.func31 ga k! (.inr rfl) ev k! (aN j9 k!) k!) aw ⟨dh,dK,by omega⟩ (by rw[q];rfl)
 have hsl:0<s.length:=List.length_pos_iff.2 q
 obtain ⟨c0,abl,ic0⟩:∃c0:Nat,decide (((c0:Nat):Int)=45)=decide (s.head?=some 45)∧pv env (some .string) (some (.str s)) (some (.int .i64 0))=some (.int .u8 (c0:Int)):=by
  cases s with
  | nil=>exact absurd rfl q
  | cons x r=>
   refine ⟨x.toNat,?_,u0 (s:=x::r) (j:=0) (by simp)⟩
   have:(((x.toNat:Nat):Int)=45)↔((x::r).head?=some 45):=by
    simp only[List.head?_cons,Option.some.injEq]
    constructor
    · intro e;exact UInt8.toNat_inj.1 (by show x.toNat=45;omega)
    · rintro rfl;rfl
   simp only[this]
 obtain ⟨ng,hZ⟩:∃ng,ng=decide (s.head?=some 45):=⟨_,rfl⟩
 have Ih:decide ((c0:Int)=45)=ng:=by rw[hZ];exact abl
 clear abl
 have cR:(!decide (s=[]))=true:=by rw[decide_eq_false q];rfl
 obtain ⟨A,hA⟩:∃A,A=bJ (cL ab):=⟨_,rfl⟩
 obtain ⟨B,hB⟩:∃B,B=bJ (cL be):=⟨_,rfl⟩
 obtain ⟨D,Ft⟩:∃D,D=bif sp then B else 1:=⟨_,rfl⟩
 obtain ⟨mq,nQ⟩:∃b,(decide (((c0:Nat):Int)=45)&&decide (A≠0))=b:=⟨_,rfl⟩
 obtain ⟨tx,s6⟩:∃tx,tx=eT mq (A/Nat.gcd A D) (D/Nat.gcd A D):=⟨_,rfl⟩
 obtain ⟨h1,aO,aK,bm,aC,ck⟩:=de aw (ar.cells [(aj false),bE,bE] 32 false)
 have aD:Has h h1:=ck
 have q2:(decide (100002<((List.length s:Nat):Int)))=false:=d!
 have q3:(!decide (s=[]))=true:=d!
 have PE:=R0|>Ra aO (fun i=>(AV.ptr i 0))|>Rn 5|>Rv (bM 3 false true .i64 ((List.length s:Nat):Int) 100002)|>Rb q2|>Rc|>Rv (VF 9 false true s [])|>Rc|>Rb q3|>Rc|>Rb q3|>Rv ic0|>Rb q3|>Rv (bQ 5 false true .u8 (c0:Int) 45)|>Rv (aG (a:=some (aj (decide ((c0:Int)=45)))) (b:=some (aj false)) q3)|>Rn 2
 rcases Bool.eq_false_or_eq_true (decide ((c0:Int)=45)) with f2 | f2
 · have ru:ng=true:=by rw[←Ih];exact f2
   have A5:aH s=List.drop 1 s:=by rw[ru] at hZ;unfold aH;rw[if_pos (of_decide_eq_true hZ.symm)]
   have kC:∀hh,aQ (d+7) (.fn 25) [.str (List.drop 1 s),.int .u8 47] hh= .ret (.tuple [.str ab,.str be,.bool sp]) hh:=fun hh=>by rw[fW,h_,ic,A5];exact JY (d:=d+6) (by rw[List.length_drop];omega)
   have q4:(decide ((c0:Int)=45))=true:=d!
   have V8:aZ env 9 (AV.str s) (some (af 1)) (none) (none)=some (AV.str (List.drop 1 s)):=ln k! o! (by first | omega | (simp;omega))
   have PS:=kC h1
   have r2_:=PE|>Rb q4|>Rc|>Rq V8|>Rn 2|>Re PS|>Rn 9
   rcases Bool.eq_false_or_eq_true (!sp) with f3 | f3
   · have cn:sp=false:=by simpa using f3
     have q6:(!sp)=true:=d!
     have vl:=kDa h1
     have r3_:=r2_|>Rb q6|>Rn 2|>Re vl|>Rn 2
     rcases Bool.eq_false_or_eq_true (!da) with f4 | f4
     · have eV:da=false:=by simpa using f4
       have q7:(!da)=true:=d!
       obtain ⟨h8,sW,eQ,BE,nI,gQ⟩:=b9 (t:=32) (n:=3) (i:=h.nx) (L:=[(aj false),bE,bE]) aK aC k! rfl rfl z!
       have jl:=Has.ak aD gQ aw o!
       have ev:=nf (d+7) cQ ((AV.str s)::aV 68) h .ret h8 (r3_|>Rb q7|>Rb q7|>Rb q7|>Rv (aG (a:=some (aj true)) (b:=some aB) q7)|>Rc|>Rt|>Rt|>Rt|>Rn 2|>Rt|>Rt|>Rt|>Rc|>Rt|>Rc|>Rs sW|>Rc) k!
       exact m7 (cK (a:=2) (b:=3) (t:=32) Tryz.func31 ga k! (.inr rfl) ev k! (aN nI k!) k!) aw ⟨eQ,jl,by omega⟩ (by rw[jU fW h_ ic jL kj hZ hA hB];simp [eV])
     · have eV:da=true:=by simpa using f4
       have CJ:=d_ (show nu ab=true by rw[←jL];exact eV)
       have hD:D=bJ (cL [49]):=by rw[Ft,cn];rfl
       have lA:=ke CJ hA
       have lD:=ke dg1 hD
       have lA:(nW A).length<2^26:=by omega
       have lD:(nW D).length<2^26:=by simp at lD;omega
       have o8:D≠0:=by rw[Ft,cn];exact (by decide:(1:Nat)≠0)
       have fD:decide ((((nW D).length:Nat):Int)=0)=false:=dF (fun e=>o8 (nM.1 (List.length_eq_zero_iff.1 o!)))
       have LI:=Nat.lt_of_le_of_lt (dD (Nat.div_le_self A (Nat.gcd A D))) lA
       have LJ:=Nat.lt_of_le_of_lt (dD (Nat.div_le_self D (Nat.gcd A D))) lD
       have q7:(!da)=false:=d!
       have S1:=kD1 h1
       have q8:(decide (50000<((List.length ab:Nat):Int)))=false:=d!
       obtain ⟨zd,h9,Dq,qO,zA,nwd⟩:=kf (d:=d+5) (h:=h1) (s:=[49]) (by decide) dg1 aK
       have gR:=qO.y
       have aai:=qO.n
       rw[←hD] at zA
       have nm:=aD.trans qO.a
       have Dj:(decide ((((nW D).length:Nat):Int)=0))=false:=d!
       obtain ⟨zu,ki,j0,cu,Cs,Wr⟩:=kf (d:=d+5) (h:=h9) (s:=ab) o! CJ gR
       have cS:=cu.y
       have B7:=cu.n
       rw[←hA] at Cs
       have cP:=nm.trans cu.a
       have rv:=cu.a
       obtain ⟨z1,z2,sZ,nA,fp,AY,xI,Ws,Wt⟩:=ji (d:=d) (h:=ki) (ng:=(decide ((c0:Int)=45))) Cs (zA.has rv) o8 lA lD cS
       have dH:=fp.y
       have JR:=fp.n
       rw[nQ] at nA
       have dV:=cP.trans fp.a
       have jh:=fp.a
       obtain ⟨tG,ajK,fl,Ei,kJ,UH⟩:=de dH (ar.cells [(aj false),bE,bE] 32 false)
       have gu:=dV.trans UH
       have f':=jh.trans UH
       have pU:Has sZ tG:=UH
       have V9:AV.scalar z1=true:=(ao.tZ AY)
       have ajq:AV.scalar z2=true:=(ao.tZ xI)
       obtain ⟨pP,jc,dS,oZ,fE,ff⟩:=b9 (t:=32) (n:=3) (i:=sZ.nx) (L:=[(aj mq),z1,z2]) fl kJ k! rfl rfl z!
       have fm:=Has.ak gu ff aw o!
       have Wu:=Has.ak f' ff cS o!
       have ua:=Has.ak pU ff dH o!
       have kT:=mZ (d:=d+5) (h:=pP) (m:=mq) (AY.has ua) (xI.has ua) LI LJ dS
       rw[←s6] at kT
       obtain ⟨E0,tM,ij,G4,mN,lB⟩:=b9 (t:=32) (n:=3) (i:=h.nx) (L:=[(aj mq),z1,z2]) dS (ff _ _ o! (UH _ _ (fp.a _ _ (cu.a _ _ (qO.a _ _ aC))))) k! rfl rfl z!
       have iE:=Has.ak fm lB aw o!
       have c18:AV.same 20 (AV.agg [(aj mq),z1,z2]) (AV.agg [(aj mq),z1,z2])=true:=(Cp AY.known xI.known)
       have ev:=nf (d+7) cQ ((AV.str s)::aV 68) h .ret E0 (r3_|>Rb q7|>Rc|>Rb q7|>Re S1|>Rb q7|>Rc|>Rv (aL (a:=some (aj true)) (b:=some (aj false)) q7)|>Rc|>Rf|>Rc|>Rf|>Rc|>Rf|>Rv (bM 3 false true .i64 ((List.length ab:Nat):Int) 50000)|>Rn 2|>Rb q8|>Rc|>Rb q8|>Rc|>Rb q8|>Rc|>Rv (aL (a:=some (aj true)) (b:=some (aj false)) q8)|>Rf|>Rc|>Re Dq|>Rn 2|>Rv (zA).len|>Rv (bQ 3 false true .i64 (((nW D).length:Nat):Int) 0)|>Rb Dj|>Rn 2|>Re j0|>Rc|>Re nA|>Ra ajK (fun i=>(AV.ptr i 0))|>Rs jc|>Rm (aJ 32 0 (AV.agg [(aj mq),z1,z2]) fE k!)|>Rm (aJ 32 0 (AV.agg [(aj mq),z1,z2]) fE k!)|>Rc|>Re kT|>Rv (EO 23 false false tx s)|>Rs tM|>Rc|>Rh (aJ 32 0 (AV.agg [(aj mq),z1,z2]) fE k!)|>Rh c18|>Rh (aJ 32 0 (AV.agg [(aj mq),z1,z2]) fE k!)|>Rh c18|>Rh (aJ 32 0 (AV.agg [(aj mq),z1,z2]) fE k!)|>Rh c18) k!
       have o1:∀q,q≤h.nx→mj q z1:=fun q hq=>by
        rcases Ws with rfl | sz
        · exact Wr q o!
        · exact sz q o!
       have n1:=(AY.has ua).kept lB (o1 _ (Nat.le_refl _))
       have o2:∀q,q≤h.nx→mj q z2:=fun q hq=>by
        rcases Wt with rfl | sz
        · exact nwd q o!
        · exact sz q o!
       have n2:=(xI.has ua).kept lB (o2 _ (Nat.le_refl _))
       exact Cr (cK (a:=2) (b:=3) (t:=32) Tryz.func31 ga k! (.inr rfl) ev k! (aN mN k!) k!) aw ⟨ij,iE,by omega⟩ n1 n2 (fun q hq=>o1 q o!) (fun q hq=>o2 q o!) (by rw[jU fW h_ ic jL kj hZ hA hB,eV,cn];exact PO (show D=1 by rw[Ft,cn];rfl) nQ Ih s6)
   · have cn:sp=true:=by simpa using f3
     have q6:(!sp)=false:=d!
     have vl:=kDa h1
     have r4_:=r2_|>Rb q6|>Rc|>Re vl|>Rn 2
     rcases Bool.eq_false_or_eq_true (!da) with f4 | f4
     · have eV:da=false:=by simpa using f4
       have q7:(!da)=true:=d!
       obtain ⟨h8,sW,eQ,BE,nI,gQ⟩:=b9 (t:=32) (n:=3) (i:=h.nx) (L:=[(aj false),bE,bE]) aK aC k! rfl rfl z!
       have jl:=Has.ak aD gQ aw o!
       have ev:=nf (d+7) cQ ((AV.str s)::aV 68) h .ret h8 (r4_|>Rb q7|>Rb q7|>Rb q7|>Rv (aG (a:=some (aj true)) (b:=some aB) q7)|>Rc|>Rt|>Rt|>Rt|>Rn 2|>Rt|>Rt|>Rt|>Rc|>Rt|>Rc|>Rs sW|>Rc) k!
       exact m7 (cK (a:=2) (b:=3) (t:=32) Tryz.func31 ga k! (.inr rfl) ev k! (aN nI k!) k!) aw ⟨eQ,jl,by omega⟩ (by rw[jU fW h_ ic jL kj hZ hA hB];simp [eV])
     · have eV:da=true:=by simpa using f4
       have CJ:=d_ (show nu ab=true by rw[←jL];exact eV)
       have q7:(!da)=false:=d!
       have S2:=kDb h1
       have r5_:=r4_|>Rb q7|>Rc|>Rb q7|>Re S2|>Rb q7|>Rc|>Rv (aL (a:=some (aj true)) (b:=some (aj (!db))) q7)|>Rc
       rcases Bool.eq_false_or_eq_true (!db) with f5 | f5
       · have jr:db=false:=by simpa using f5
         have q8:(!db)=true:=d!
         obtain ⟨h9,Sg,gR,GY,pH,B1⟩:=b9 (t:=32) (n:=3) (i:=h.nx) (L:=[(aj false),bE,bE]) aK aC k! rfl rfl z!
         have nm:=Has.ak aD B1 aw o!
         have ev:=nf (d+7) cQ ((AV.str s)::aV 68) h .ret h9 (r5_|>Rb q8|>Rb q8|>Rb q8|>Rv (aG (a:=some (aj true)) (b:=some aB) q8)|>Rc|>Rt|>Rt|>Rt|>Rc|>Rt|>Rc|>Rs Sg|>Rc) k!
         exact m7 (cK (a:=2) (b:=3) (t:=32) Tryz.func31 ga k! (.inr rfl) ev k! (aN pH k!) k!) aw ⟨gR,nm,by omega⟩ (by rw[jU fW h_ ic jL kj hZ hA hB];simp [eV,cn,jr])
       · have jr:db=true:=by simpa using f5
         have LK:=d_ (show nu be=true by rw[←kj];exact jr)
         have hD:D=bJ (cL be):=by rw[Ft,cn];exact hB
         have lA:=ke CJ hA
         have lD:=ke LK hD
         have lA:(nW A).length<2^26:=by omega
         have lD:(nW D).length<2^26:=by omega
         have q8:(!db)=false:=d!
         have q9:(decide (50000<((List.length ab:Nat):Int)))=false:=d!
         have Dj:(decide (50000<((List.length be:Nat):Int)))=false:=d!
         obtain ⟨zd,ki,j0,cu,zA,nwd⟩:=kf (d:=d+5) (h:=h1) (s:=be) o! LK aK
         have cS:=cu.y
         have B7:=cu.n
         rw[←hD] at zA
         have cP:=aD.trans cu.a
         have r6_:=r5_|>Rb q8|>Rc|>Rb q8|>Rc|>Rb q8|>Rv (bM 3 false true .i64 ((List.length ab:Nat):Int) 50000)|>Rv (aL (a:=some (aj true)) (b:=some (aj (decide (50000<((List.length ab:Nat):Int))))) q8)|>Rc|>Rb q9|>Rc|>Rb q9|>Rc|>Rb q9|>Rv (bM 3 false true .i64 ((List.length be:Nat):Int) 50000)|>Rv (aL (a:=some (aj true)) (b:=some (aj (decide (50000<((List.length be:Nat):Int))))) q9)|>Rb Dj|>Rc|>Re j0|>Rn 2|>Rv (zA).len|>Rv (bQ 3 false true .i64 (((nW D).length:Nat):Int) 0)
         rcases Bool.eq_false_or_eq_true (decide ((((nW D).length:Nat):Int)=0)) with f8 | f8
         · have o8:D=0:=by have f8:=of_decide_eq_true f8;exact nM.1 (List.length_eq_zero_iff.1 o!)
           have VZ:(decide ((((nW D).length:Nat):Int)=0))=true:=d!
           obtain ⟨tG,oe,fl,Ei,kJ,eh⟩:=b9 (t:=32) (n:=3) (i:=h.nx) (L:=[(aj false),bE,bE]) cS (cu.a _ _ aC) k! rfl rfl z!
           have gu:=Has.ak cP eh aw o!
           have ev:=nf (d+7) cQ ((AV.str s)::aV 68) h .ret tG (r6_|>Rb VZ|>Rc|>Rs oe|>Rc) k!
           exact m7 (cK (a:=2) (b:=3) (t:=32) Tryz.func31 ga k! (.inr rfl) ev k! (aN kJ k!) k!) aw ⟨fl,gu,by omega⟩ (by rw[jU fW h_ ic jL kj hZ hA hB];have Xb:B=0:=(by rw[Ft,cn] at o8;exact o8);simp [eV,cn,jr,Xb])
         · have o8:D≠0:=fun e=>by have f8:=of_decide_eq_false f8;rw[e,eO] at f8;simp at f8
           have LI:=Nat.lt_of_le_of_lt (dD (Nat.div_le_self A (Nat.gcd A D))) lA
           have LJ:=Nat.lt_of_le_of_lt (dD (Nat.div_le_self D (Nat.gcd A D))) lD
           have VZ:(decide ((((nW D).length:Nat):Int)=0))=false:=d!
           obtain ⟨zu,tG,lU,di,Cs,Wr⟩:=kf (d:=d+5) (h:=ki) (s:=ab) o! CJ cS
           have fl:=di.y
           have Er:=di.n
           rw[←hA] at Cs
           have gu:=cP.trans di.a
           have f':=di.a
           obtain ⟨z1,z2,pP,tQ,kK,AY,xI,Ws,Wt⟩:=ji (d:=d) (h:=tG) (ng:=(decide ((c0:Int)=45))) Cs (zA.has f') o8 lA lD fl
           have dS:=kK.y
           have abc:=kK.n
           rw[nQ] at tQ
           have fm:=gu.trans kK.a
           have Wu:=f'.trans kK.a
           have mf:=kK.a
           obtain ⟨vJ,ajL,iP,Em,jJ,UI⟩:=de dS (ar.cells [(aj false),bE,bE] 32 false)
           have jv:=fm.trans UI
           have nN:=mf.trans UI
           have Wv:Has pP vJ:=UI
           have ajM:AV.scalar z1=true:=(ao.tZ AY)
           have amj:AV.scalar z2=true:=(ao.tZ xI)
           obtain ⟨Uk,B3,mL,O4,mM,fT⟩:=b9 (t:=32) (n:=3) (i:=pP.nx) (L:=[(aj mq),z1,z2]) iP jJ k! rfl rfl z!
           have nv:=Has.ak jv fT aw o!
           have yS:=Has.ak Wv fT dS o!
           have kT:=mZ (d:=d+5) (h:=Uk) (m:=mq) (AY.has yS) (xI.has yS) LI LJ mL
           rw[←s6] at kT
           obtain ⟨Fo,BZ,tJ,Jz,xh,jn⟩:=b9 (t:=32) (n:=3) (i:=h.nx) (L:=[(aj mq),z1,z2]) mL (fT _ _ o! (UI _ _ (kK.a _ _ (di.a _ _ (cu.a _ _ aC))))) k! rfl rfl z!
           have tK:=Has.ak nv jn aw o!
           have c20:AV.same 20 (AV.agg [(aj mq),z1,z2]) (AV.agg [(aj mq),z1,z2])=true:=(Cp AY.known xI.known)
           have ev:=nf (d+7) cQ ((AV.str s)::aV 68) h .ret Fo (r6_|>Rb VZ|>Rn 2|>Re lU|>Rc|>Re tQ|>Ra ajL (fun i=>(AV.ptr i 0))|>Rs B3|>Rm (aJ 32 0 (AV.agg [(aj mq),z1,z2]) mM k!)|>Rm (aJ 32 0 (AV.agg [(aj mq),z1,z2]) mM k!)|>Rc|>Re kT|>Rv (EO 23 false false tx s)|>Rs BZ|>Rc|>Rh (aJ 32 0 (AV.agg [(aj mq),z1,z2]) mM k!)|>Rh c20|>Rh (aJ 32 0 (AV.agg [(aj mq),z1,z2]) mM k!)|>Rh c20|>Rh (aJ 32 0 (AV.agg [(aj mq),z1,z2]) mM k!)|>Rh c20) k!
           have o1:∀q,q≤h.nx→mj q z1:=fun q hq=>by
            rcases Ws with rfl | sz
            · exact Wr q o!
            · exact sz q o!
           have n1:=(AY.has yS).kept jn (o1 _ (Nat.le_refl _))
           have o2:∀q,q≤h.nx→mj q z2:=fun q hq=>by
            rcases Wt with rfl | sz
            · exact nwd q o!
            · exact sz q o!
           have n2:=(xI.has yS).kept jn (o2 _ (Nat.le_refl _))
           exact Cr (cK (a:=2) (b:=3) (t:=32) Tryz.func31 ga k! (.inr rfl) ev k! (aN xh k!) k!) aw ⟨tJ,tK,by omega⟩ n1 n2 (fun q hq=>o1 q o!) (fun q hq=>o2 q o!) (by rw[jU fW h_ ic jL kj hZ hA hB,eV,cn,jr];exact PQ (show B=D by rw[Ft,cn];rfl) o8 nQ Ih s6)
 · have ru:ng=false:=by rw[←Ih];exact f2
   have A5:aH s=s:=by rw[ru] at hZ;unfold aH;rw[if_neg (of_decide_eq_false hZ.symm)]
   have kC:∀hh,aQ (d+7) (.fn 25) [.str (s),.int .u8 47] hh= .ret (.tuple [.str ab,.str be,.bool sp]) hh:=fun hh=>by rw[fW,h_,ic,A5];exact JY (d:=d+6) o!
   have q4:(decide ((c0:Int)=45))=false:=d!
   have PS:=kC h1
   have r7_:=PE|>Rb q4|>Rc|>Re PS|>Rn 9
   rcases Bool.eq_false_or_eq_true (!sp) with f3 | f3
   · have cn:sp=false:=by simpa using f3
     have q5:(!sp)=true:=d!
     have vl:=kDa h1
     have r8_:=r7_|>Rb q5|>Rn 2|>Re vl|>Rn 2
     rcases Bool.eq_false_or_eq_true (!da) with f4 | f4
     · have eV:da=false:=by simpa using f4
       have q6:(!da)=true:=d!
       obtain ⟨h7,AF,eC,EV,rN,iQ⟩:=b9 (t:=32) (n:=3) (i:=h.nx) (L:=[(aj false),bE,bE]) aK aC k! rfl rfl z!
       have eJ:=Has.ak aD iQ aw o!
       have ev:=nf (d+7) cQ ((AV.str s)::aV 68) h .ret h7 (r8_|>Rb q6|>Rb q6|>Rb q6|>Rv (aG (a:=some (aj true)) (b:=some aB) q6)|>Rc|>Rt|>Rt|>Rt|>Rn 2|>Rt|>Rt|>Rt|>Rc|>Rt|>Rc|>Rs AF|>Rc) k!
       exact m7 (cK (a:=2) (b:=3) (t:=32) Tryz.func31 ga k! (.inr rfl) ev k! (aN rN k!) k!) aw ⟨eC,eJ,by omega⟩ (by rw[jU fW h_ ic jL kj hZ hA hB];simp [eV])
     · have eV:da=true:=by simpa using f4
       have CJ:=d_ (show nu ab=true by rw[←jL];exact eV)
       have hD:D=bJ (cL [49]):=by rw[Ft,cn];rfl
       have lA:=ke CJ hA
       have lD:=ke dg1 hD
       have lA:(nW A).length<2^26:=by omega
       have lD:(nW D).length<2^26:=by simp at lD;omega
       have o8:D≠0:=by rw[Ft,cn];exact (by decide:(1:Nat)≠0)
       have fD:decide ((((nW D).length:Nat):Int)=0)=false:=dF (fun e=>o8 (nM.1 (List.length_eq_zero_iff.1 o!)))
       have LI:=Nat.lt_of_le_of_lt (dD (Nat.div_le_self A (Nat.gcd A D))) lA
       have LJ:=Nat.lt_of_le_of_lt (dD (Nat.div_le_self D (Nat.gcd A D))) lD
       have q6:(!da)=false:=d!
       have S1:=kD1 h1
       have q7:(decide (50000<((List.length ab:Nat):Int)))=false:=d!
       obtain ⟨zd,h8,Hc,xK,zA,nwd⟩:=kf (d:=d+5) (h:=h1) (s:=[49]) (by decide) dg1 aK
       have eQ:=xK.y
       have aaa:=xK.n
       rw[←hD] at zA
       have jl:=aD.trans xK.a
       have q9:(decide ((((nW D).length:Nat):Int)=0))=false:=d!
       obtain ⟨zu,lx,oh,cJ,Cs,Wr⟩:=kf (d:=d+5) (h:=h8) (s:=ab) o! CJ eQ
       have dE:=cJ.y
       have Ep:=cJ.n
       rw[←hA] at Cs
       have dm:=jl.trans cJ.a
       have ry:=cJ.a
       obtain ⟨z1,z2,ki,j0,cu,AY,xI,Ws,Wt⟩:=ji (d:=d) (h:=lx) (ng:=(decide ((c0:Int)=45))) Cs (zA.has ry) o8 lA lD dE
       have cS:=cu.y
       have B7:=cu.n
       rw[nQ] at j0
       have cP:=dm.trans cu.a
       have nP:=cu.a
       obtain ⟨sZ,HL,dH,vr,gS,mg⟩:=de cS (ar.cells [(aj false),bE,bE] 32 false)
       have dV:=cP.trans mg
       have nR:=nP.trans mg
       have jh:Has ki sZ:=mg
       have adz:AV.scalar z1=true:=(ao.tZ AY)
       have V9:AV.scalar z2=true:=(ao.tZ xI)
       obtain ⟨tG,oe,fl,Ei,kJ,eh⟩:=b9 (t:=32) (n:=3) (i:=ki.nx) (L:=[(aj mq),z1,z2]) dH gS k! rfl rfl z!
       have gu:=Has.ak dV eh aw o!
       have Ww:=Has.ak nR eh dE o!
       have f':=Has.ak jh eh cS o!
       have kT:=mZ (d:=d+5) (h:=tG) (m:=mq) (AY.has f') (xI.has f') LI LJ fl
       rw[←s6] at kT
       obtain ⟨Uk,B3,mL,O4,mM,fT⟩:=b9 (t:=32) (n:=3) (i:=h.nx) (L:=[(aj mq),z1,z2]) fl (eh _ _ o! (mg _ _ (cu.a _ _ (cJ.a _ _ (xK.a _ _ aC))))) k! rfl rfl z!
       have nv:=Has.ak gu fT aw o!
       have RL:AV.same 20 (AV.agg [(aj mq),z1,z2]) (AV.agg [(aj mq),z1,z2])=true:=(Cp AY.known xI.known)
       have ev:=nf (d+7) cQ ((AV.str s)::aV 68) h .ret Uk (r8_|>Rb q6|>Rc|>Rb q6|>Re S1|>Rb q6|>Rc|>Rv (aL (a:=some (aj true)) (b:=some (aj false)) q6)|>Rc|>Rf|>Rc|>Rf|>Rc|>Rf|>Rv (bM 3 false true .i64 ((List.length ab:Nat):Int) 50000)|>Rn 2|>Rb q7|>Rc|>Rb q7|>Rc|>Rb q7|>Rc|>Rv (aL (a:=some (aj true)) (b:=some (aj false)) q7)|>Rf|>Rc|>Re Hc|>Rn 2|>Rv (zA).len|>Rv (bQ 3 false true .i64 (((nW D).length:Nat):Int) 0)|>Rb q9|>Rn 2|>Re oh|>Rc|>Re j0|>Ra HL (fun i=>(AV.ptr i 0))|>Rs oe|>Rm (aJ 32 0 (AV.agg [(aj mq),z1,z2]) kJ k!)|>Rm (aJ 32 0 (AV.agg [(aj mq),z1,z2]) kJ k!)|>Rc|>Re kT|>Rv (EO 23 false false tx s)|>Rs B3|>Rc|>Rh (aJ 32 0 (AV.agg [(aj mq),z1,z2]) kJ k!)|>Rh RL|>Rh (aJ 32 0 (AV.agg [(aj mq),z1,z2]) kJ k!)|>Rh RL|>Rh (aJ 32 0 (AV.agg [(aj mq),z1,z2]) kJ k!)|>Rh RL) k!
       have o1:∀q,q≤h.nx→mj q z1:=fun q hq=>by
        rcases Ws with rfl | sz
        · exact Wr q o!
        · exact sz q o!
       have n1:=(AY.has f').kept fT (o1 _ (Nat.le_refl _))
       have o2:∀q,q≤h.nx→mj q z2:=fun q hq=>by
        rcases Wt with rfl | sz
        · exact nwd q o!
        · exact sz q o!
       have n2:=(xI.has f').kept fT (o2 _ (Nat.le_refl _))
       exact Cr (cK (a:=2) (b:=3) (t:=32) Tryz.func31 ga k! (.inr rfl) ev k! (aN mM k!) k!) aw ⟨mL,nv,by omega⟩ n1 n2 (fun q hq=>o1 q o!) (fun q hq=>o2 q o!) (by rw[jU fW h_ ic jL kj hZ hA hB,eV,cn];exact PO (show D=1 by rw[Ft,cn];rfl) nQ Ih s6)
   · have cn:sp=true:=by simpa using f3
     have q5:(!sp)=false:=d!
     have vl:=kDa h1
     have r9_:=r7_|>Rb q5|>Rc|>Re vl|>Rn 2
     rcases Bool.eq_false_or_eq_true (!da) with f4 | f4
     · have eV:da=false:=by simpa using f4
       have q6:(!da)=true:=d!
       obtain ⟨h7,AF,eC,EV,rN,iQ⟩:=b9 (t:=32) (n:=3) (i:=h.nx) (L:=[(aj false),bE,bE]) aK aC k! rfl rfl z!
       have eJ:=Has.ak aD iQ aw o!
       have ev:=nf (d+7) cQ ((AV.str s)::aV 68) h .ret h7 (r9_|>Rb q6|>Rb q6|>Rb q6|>Rv (aG (a:=some (aj true)) (b:=some aB) q6)|>Rc|>Rt|>Rt|>Rt|>Rn 2|>Rt|>Rt|>Rt|>Rc|>Rt|>Rc|>Rs AF|>Rc) k!
       exact m7 (cK (a:=2) (b:=3) (t:=32) Tryz.func31 ga k! (.inr rfl) ev k! (aN rN k!) k!) aw ⟨eC,eJ,by omega⟩ (by rw[jU fW h_ ic jL kj hZ hA hB];simp [eV])
     · have eV:da=true:=by simpa using f4
       have CJ:=d_ (show nu ab=true by rw[←jL];exact eV)
       have q6:(!da)=false:=d!
       have S2:=kDb h1
       have HM:=r9_|>Rb q6|>Rc|>Rb q6|>Re S2|>Rb q6|>Rc|>Rv (aL (a:=some (aj true)) (b:=some (aj (!db))) q6)|>Rc
       rcases Bool.eq_false_or_eq_true (!db) with f5 | f5
       · have jr:db=false:=by simpa using f5
         have q7:(!db)=true:=d!
         obtain ⟨h8,sW,eQ,BE,nI,gQ⟩:=b9 (t:=32) (n:=3) (i:=h.nx) (L:=[(aj false),bE,bE]) aK aC k! rfl rfl z!
         have jl:=Has.ak aD gQ aw o!
         have ev:=nf (d+7) cQ ((AV.str s)::aV 68) h .ret h8 (HM|>Rb q7|>Rb q7|>Rb q7|>Rv (aG (a:=some (aj true)) (b:=some aB) q7)|>Rc|>Rt|>Rt|>Rt|>Rc|>Rt|>Rc|>Rs sW|>Rc) k!
         exact m7 (cK (a:=2) (b:=3) (t:=32) Tryz.func31 ga k! (.inr rfl) ev k! (aN nI k!) k!) aw ⟨eQ,jl,by omega⟩ (by rw[jU fW h_ ic jL kj hZ hA hB];simp [eV,cn,jr])
       · have jr:db=true:=by simpa using f5
         have LK:=d_ (show nu be=true by rw[←kj];exact jr)
         have hD:D=bJ (cL be):=by rw[Ft,cn];exact hB
         have lA:=ke CJ hA
         have lD:=ke LK hD
         have lA:(nW A).length<2^26:=by omega
         have lD:(nW D).length<2^26:=by omega
         have q7:(!db)=false:=d!
         have q8:(decide (50000<((List.length ab:Nat):Int)))=false:=d!
         have q9:(decide (50000<((List.length be:Nat):Int)))=false:=d!
         obtain ⟨zd,lx,oh,cJ,zA,nwd⟩:=kf (d:=d+5) (h:=h1) (s:=be) o! LK aK
         have dE:=cJ.y
         have Ep:=cJ.n
         rw[←hD] at zA
         have dm:=aD.trans cJ.a
         have HN:=HM|>Rb q7|>Rc|>Rb q7|>Rc|>Rb q7|>Rv (bM 3 false true .i64 ((List.length ab:Nat):Int) 50000)|>Rv (aL (a:=some (aj true)) (b:=some (aj (decide (50000<((List.length ab:Nat):Int))))) q7)|>Rc|>Rb q8|>Rc|>Rb q8|>Rc|>Rb q8|>Rv (bM 3 false true .i64 ((List.length be:Nat):Int) 50000)|>Rv (aL (a:=some (aj true)) (b:=some (aj (decide (50000<((List.length be:Nat):Int))))) q8)|>Rb q9|>Rc|>Re oh|>Rn 2|>Rv (zA).len|>Rv (bQ 3 false true .i64 (((nW D).length:Nat):Int) 0)
         rcases Bool.eq_false_or_eq_true (decide ((((nW D).length:Nat):Int)=0)) with f8 | f8
         · have o8:D=0:=by have f8:=of_decide_eq_true f8;exact nM.1 (List.length_eq_zero_iff.1 o!)
           have L0:(decide ((((nW D).length:Nat):Int)=0))=true:=d!
           obtain ⟨sZ,qN,dH,vr,gS,fh⟩:=b9 (t:=32) (n:=3) (i:=h.nx) (L:=[(aj false),bE,bE]) dE (cJ.a _ _ aC) k! rfl rfl z!
           have dV:=Has.ak dm fh aw o!
           have ev:=nf (d+7) cQ ((AV.str s)::aV 68) h .ret sZ (HN|>Rb L0|>Rc|>Rs qN|>Rc) k!
           exact m7 (cK (a:=2) (b:=3) (t:=32) Tryz.func31 ga k! (.inr rfl) ev k! (aN gS k!) k!) aw ⟨dH,dV,by omega⟩ (by rw[jU fW h_ ic jL kj hZ hA hB];have Xb:B=0:=(by rw[Ft,cn] at o8;exact o8);simp [eV,cn,jr,Xb])
         · have o8:D≠0:=fun e=>by have f8:=of_decide_eq_false f8;rw[e,eO] at f8;simp at f8
           have LI:=Nat.lt_of_le_of_lt (dD (Nat.div_le_self A (Nat.gcd A D))) lA
           have LJ:=Nat.lt_of_le_of_lt (dD (Nat.div_le_self D (Nat.gcd A D))) lD
           have L0:(decide ((((nW D).length:Nat):Int)=0))=false:=d!
           obtain ⟨zu,sZ,nA,fp,Cs,Wr⟩:=kf (d:=d+5) (h:=lx) (s:=ab) o! CJ dE
           have dH:=fp.y
           have JR:=fp.n
           rw[←hA] at Cs
           have dV:=dm.trans fp.a
           have nR:=fp.a
           obtain ⟨z1,z2,tG,lU,di,AY,xI,Ws,Wt⟩:=ji (d:=d) (h:=sZ) (ng:=(decide ((c0:Int)=45))) Cs (zA.has nR) o8 lA lD dH
           have fl:=di.y
           have Er:=di.n
           rw[nQ] at lU
           have gu:=dV.trans di.a
           have Ww:=nR.trans di.a
           have pU:=di.a
           obtain ⟨pP,O0,dS,oZ,fE,o9⟩:=de fl (ar.cells [(aj false),bE,bE] 32 false)
           have fm:=gu.trans o9
           have ua:=pU.trans o9
           have mf:Has tG pP:=o9
           have ajq:AV.scalar z1=true:=(ao.tZ AY)
           have ajM:AV.scalar z2=true:=(ao.tZ xI)
           obtain ⟨vJ,qI,iP,Em,jJ,mK⟩:=b9 (t:=32) (n:=3) (i:=tG.nx) (L:=[(aj mq),z1,z2]) dS fE k! rfl rfl z!
           have jv:=Has.ak fm mK aw o!
           have nN:=Has.ak mf mK fl o!
           have kT:=mZ (d:=d+5) (h:=vJ) (m:=mq) (AY.has nN) (xI.has nN) LI LJ iP
           rw[←s6] at kT
           obtain ⟨h18,Pb,xk,aeW,Pc,xm⟩:=b9 (t:=32) (n:=3) (i:=h.nx) (L:=[(aj mq),z1,z2]) iP (mK _ _ o! (o9 _ _ (di.a _ _ (fp.a _ _ (cJ.a _ _ aC))))) k! rfl rfl z!
           have zU:=Has.ak jv xm aw o!
           have c19:AV.same 20 (AV.agg [(aj mq),z1,z2]) (AV.agg [(aj mq),z1,z2])=true:=(Cp AY.known xI.known)
           have ev:=nf (d+7) cQ ((AV.str s)::aV 68) h .ret h18 (HN|>Rb L0|>Rn 2|>Re nA|>Rc|>Re lU|>Ra O0 (fun i=>(AV.ptr i 0))|>Rs qI|>Rm (aJ 32 0 (AV.agg [(aj mq),z1,z2]) jJ k!)|>Rm (aJ 32 0 (AV.agg [(aj mq),z1,z2]) jJ k!)|>Rc|>Re kT|>Rv (EO 23 false false tx s)|>Rs Pb|>Rc|>Rh (aJ 32 0 (AV.agg [(aj mq),z1,z2]) jJ k!)|>Rh c19|>Rh (aJ 32 0 (AV.agg [(aj mq),z1,z2]) jJ k!)|>Rh c19|>Rh (aJ 32 0 (AV.agg [(aj mq),z1,z2]) jJ k!)|>Rh c19) k!
           have o1:∀q,q≤h.nx→mj q z1:=fun q hq=>by
            rcases Ws with rfl | sz
            · exact Wr q o!
            · exact sz q o!
           have n1:=(AY.has nN).kept xm (o1 _ (Nat.le_refl _))
           have o2:∀q,q≤h.nx→mj q z2:=fun q hq=>by
            rcases Wt with rfl | sz
            · exact nwd q o!
            · exact sz q o!
           have n2:=(xI.has nN).kept xm (o2 _ (Nat.le_refl _))
           exact Cr (cK (a:=2) (b:=3) (t:=32) Tryz.func31 ga k! (.inr rfl) ev k! (aN Pc k!) k!) aw ⟨xk,zU,by omega⟩ n1 n2 (fun q hq=>o1 q o!) (fun q hq=>o2 q o!) (by rw[jU fW h_ ic jL kj hZ hA hB,eV,cn,jr];exact PQ (show B=D by rw[Ft,cn];rfl) o8 nQ Ih s6)
noncomputable def Ey:Code:=(Tryz.f8.body).getD .skip
theorem abm:Tryz.f8.body=some Ey:=by kernel_rfl
theorem JZ.tZ {z:AV} (k:JZ z):AV.scalar z=true:=by rcases k with rfl | ⟨p,o,n,c,b,rfl,_⟩<;>rfl
theorem abn {d:Nat} {h:ah} {s:List UInt8} (hs:s.length≤50000) (aw:Tidy h):aQ (d+9) (.fn 8) [.str s] h= .ret (.bool (IP s).isSome) h:=by
 obtain ⟨ok,rJ⟩:∃ok,ok=(IP s).isSome:=⟨_,rfl⟩
 rw[←rJ]
 obtain ⟨nb,z1,z2,h1,vI,S3,_,kz1,kz2⟩:=Wq (d:=d) (h:=h) hs aw
 have aK:=S3.y
 have ajO:=S3.n
 rw[←rJ] at vI
 have aD:=S3.a
 obtain ⟨h2,bD,bP,iA,bB,b8⟩:=de aK (ar.cells [(aj false),bE,bE] 32 false)
 have b7:=aD.trans b8
 have sc4:AV.scalar z1=true:=(JZ.tZ kz1)
 have sc5:AV.scalar z2=true:=(JZ.tZ kz2)
 obtain ⟨h3,ze,bt,ky,eb,qM⟩:=b9 (t:=32) (n:=3) (i:=h1.nx) (L:=[(aj nb),z1,z2]) bP bB k! rfl rfl z!
 have aX:=Has.ak b7 qM aw o!
 have ev:=pk (d+8) Ey ((AV.str s)::aV 10) h .ret h3 (CN 2<|EE vI<|CN 3<|NN bD (fun i=>(AV.ptr i 0))<|SS ze<|CN 3<|ZZ) k!
 exact ai rfl (az Tryz.func8 abm k! (.inr rfl) ev k!) aX rfl
end Go.Proofs.aF
