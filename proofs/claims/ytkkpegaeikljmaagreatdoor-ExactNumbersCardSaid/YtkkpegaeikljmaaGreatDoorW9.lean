import Derived.Test.YtkkpegaeikljmaaGreatDoorA6
import Derived.Test.YtkkpegaeikljmaaGreatDoorW0
import Derived.Test.YtkkpegaeikljmaaGreatDoorEnv
import Derived.Test.YtkkpegaeikljmaaGreatDoorW8
namespace Go.Proofs.aF
open Go.Proofs Ab
set_option maxRecDepth 100000
set_option maxHeartbeats 4000000
set_option linter.unusedVariables false
set_option linter.unusedSimpArgs false
noncomputable def jf:Code:=(Tryz.f96.body).getD .skip
theorem xq:Tryz.f96.body=some jf:=by kernel_rfl
noncomputable def xr:Code:=(aY jf).getD 0 .skip
def Us:List UInt8:=[48,48,48,49,48,50,48,51,48,52,48,53,48,54,48,55,48,56,48,57,49,48,49,49,49,50,49,51,49,52,49,53,49,54,49,55,49,56,49,57,50,48,50,49,50,50,50,51,50,52,50,53,50,54,50,55,50,56,50,57,51,48,51,49,51,50,51,51,51,52,51,53,51,54,51,55,51,56,51,57,52,48,52,49,52,50,52,51,52,52,52,53,52,54,52,55,52,56,52,57,53,48,53,49,53,50,53,51,53,52,53,53,53,54,53,55,53,56,53,57,54,48,54,49,54,50,54,51,54,52,54,53,54,54,54,55,54,56,54,57,55,48,55,49,55,50,55,51,55,52,55,53,55,54,55,55,55,56,55,57,56,48,56,49,56,50,56,51,56,52,56,53,56,54,56,55,56,56,56,57,57,48,57,49,57,50,57,51,57,52,57,53,57,54,57,55,57,56,57,57]
theorem wrap_u32 {n:Nat} (h:n<4294967296):IntKind.u32.wrap (n:Int)=(n:Int):=by
 show (if (false&&decide ((n:Int)%2^32≥2^31))=true then (n:Int)%2^32 - 2^32 else (n:Int)%2^32)=_
 rw[if_neg (by simp)]
 omega
theorem wrap_u8 {n:Nat} (h:n<256):IntKind.u8.wrap (n:Int)=(n:Int):=by
 show (if (false&&decide ((n:Int)%2^8≥2^7))=true then (n:Int)%2^8 - 2^8 else (n:Int)%2^8)=_
 rw[if_neg (by simp)]
 omega
theorem JH {E:Env} {t:TypeId} {c d:Bool} {k:IntKind} {a b:Nat} (h:k.wrap ((a+b:Nat):Int)=((a+b:Nat):Int)):aI E .add t c d (some (.int k (a:Int))) (some (.int k (b:Int)))=some (.int k ((a+b:Nat):Int)):=Au (by rw[←h];congr 1)
theorem V_ {E:Env} {t:TypeId} {c d:Bool} {k:IntKind} {a b:Nat} (h:k.wrap ((a*b:Nat):Int)=((a*b:Nat):Int)):aI E .mul t c d (some (.int k (a:Int))) (some (.int k (b:Int)))=some (.int k ((a*b:Nat):Int)):=Av (by rw[←h];congr 1)
theorem l7 {E:Env} {t:TypeId} {c d:Bool} {k:IntKind} {a b:Nat} (hb:b≠0) (h:k.wrap ((a/b:Nat):Int)=((a/b:Nat):Int)):aI E .quo t c d (some (.int k (a:Int))) (some (.int k (b:Int)))=some (.int k ((a/b:Nat):Int)):=Aw o! (by rw[←Int.ofNat_tdiv];exact h)
theorem l8 {E:Env} {t:TypeId} {c d:Bool} {k:IntKind} {a b:Nat} (hb:b≠0):aI E .rem t c d (some (.int k (a:Int))) (some (.int k (b:Int)))=some (.int k ((a%b:Nat):Int)):=Ax o! (by rw[←Int.ofNat_tmod])
theorem uZ (t:TypeId) (c d:Bool) (a b:Nat) (h1:IntKind.u32.wrap ((a+b:Nat):Int)=((a+b:Nat):Int):=by exact wrap_u32 (by omega)):aI env .add t c d (some (.int .u32 (a:Int))) (some (.int .u32 (b:Int)))=some (.int .u32 ((a+b:Nat):Int)):=JH h1
theorem zk (t:TypeId) (c d:Bool) (a b:Nat) (h1:IntKind.u32.wrap ((a*b:Nat):Int)=((a*b:Nat):Int):=by exact wrap_u32 (by omega)):aI env .mul t c d (some (.int .u32 (a:Int))) (some (.int .u32 (b:Int)))=some (.int .u32 ((a*b:Nat):Int)):=V_ h1
theorem Pd (t:TypeId) (c d:Bool) (a b:Nat) (h0:b≠0:=by omega) (h1:IntKind.u32.wrap ((a/b:Nat):Int)=((a/b:Nat):Int):=by exact wrap_u32 (by omega)):aI env .quo t c d (some (.int .u32 (a:Int))) (some (.int .u32 (b:Int)))=some (.int .u32 ((a/b:Nat):Int)):=l7 h0 h1
theorem Pe (t:TypeId) (c d:Bool) (a b:Nat) (h0:b≠0:=by omega):aI env .rem t c d (some (.int .u32 (a:Int))) (some (.int .u32 (b:Int)))=some (.int .u32 ((a%b:Nat):Int)):=l8 h0
theorem Pf:((List.range 100).all fun A=>decide (Us[A*2]? =some (UInt8.ofNat (48+A/10)))&&decide (Us[A*2+1]? =some (UInt8.ofNat (48+A%10))))=true:=by decide+kernel
theorem j_ {A:Nat} (hA:A<100):pv env (some .string) (some (.str Us)) (some (.int .u32 ((A*2:Nat):Int)))=some (.int .u8 ((48+A/10:Nat):Int)):=by
 have h:=List.all_eq_true.1 Pf A (List.mem_range.2 hA)
 simp only[Bool.and_eq_true,decide_eq_true_eq] at h
 simp only[pv]
 rw[if_pos o!,Int.toNat_natCast,h.1]
 simp only[Option.map_some,UInt8.toNat_ofNat']
 rw[Nat.mod_eq_of_lt o!]
theorem kd {A:Nat} (hA:A<100):pv env (some .string) (some (.str Us)) (some (.int .u32 ((A*2+1:Nat):Int)))=some (.int .u8 ((48+A%10:Nat):Int)):=by
 have h:=List.all_eq_true.1 Pf A (List.mem_range.2 hA)
 simp only[Bool.and_eq_true,decide_eq_true_eq] at h
 simp only[pv]
 rw[if_pos o!,Int.toNat_natCast,h.2]
 simp only[Option.map_some,UInt8.toNat_ofNat']
 rw[Nat.mod_eq_of_lt o!]
def dW:Nat→Nat→List Nat
 | _,0=> []
 | u,n+1=>dW (u/10) n++[48+u%10]
theorem fF:∀(n u:Nat),(dW u n).length=n
 | 0,_=>rfl
 | n+1,u=>by simp [dW,fF n]
def d8 (u:Nat):List Nat:=[48+u%100000000/10000/100/10,48+u%100000000/10000/100%10,48+u%100000000/10000%100/10,48+u%100000000/10000%100%10,48+u%100000000%10000/100/10,48+u%100000000%10000/100%10,48+u%100000000%10000%100/10,48+u%100000000%10000%100%10]
theorem dW8 (u m:Nat):dW u (m+8)=dW (u/100000000) m++d8 u:=by
 have e:u/10/10/10/10/10/10/10/10=u/100000000:=by omega
 simp only[dW,d8,List.append_assoc,List.cons_append,List.nil_append]
 rw[e]
 congr 1
 simp only[List.cons.injEq,and_true]
 (repeat' apply And.intro)<;>omega
theorem zn {l W:List Nat} {k m i j a b:Nat} (hm:m=k+2) (hi:i=k+1) (hj:k=j) (hl:m≤l.length):((l.take m++W).set i a).set j b=l.take k++b::a::W:=by
 subst hm hi hj
 rw[tC o!,tC o!]
 have h1:(l.take k).length=k:=by simp;omega
 apply List.ext_getElem?
 intro q
 simp only[List.append_assoc,List.cons_append,List.nil_append]
 rw[List.set_append_right _ _ o!,List.set_append_right _ _ o!,h1,Nat.sub_self,show k+1 - k=1 by omega]
 rfl
theorem adf {l W:List Nat} {m a:Nat} (hm:m=1) (hl:m≤l.length):(l.take m++W).set 0 a=a::W:=by
 subst hm
 cases l with
 | nil=>simp at hl
 | cons x l=>rfl
theorem alK {l W:List Nat} {k a b c d e f g x:Nat} (hk:8≤k) (hl:k≤l.length):((((((((l.take k++W).set (k - 1) a).set (k - 2) b).set (k - 3) c).set (k - 4) d).set (k - 5) e).set (k - 6) f).set (k - 7) g).set (k - 8) x=l.take (k - 8)++(x::g::f::e::d::c::b::a::W):=by
 rw[zn (k:=k - 2) o! o! rfl hl,zn (k:=k - 4) o! o! rfl o!,zn (k:=k - 6) o! o! rfl o!,zn (k:=k - 8) o! o! rfl o!]
theorem V' {d:Nat} {hs:ah} {ds:List cC} {rc:RC} {l:List Nat} {p o n c:Nat} {op:Bool} {C:List AV} {f:TypeId} {U:Nat} (hn:l.length=n) (gD:n<2^60) (hf:o+n≤C.length) (m:Nat):
 ∀(k u:Nat) (h:ah) (W:List Nat),k<8*m+8→W.length+k=n→dW U n=dW u k++W→u<10^k→u<18446744073709551616→Tidy h→Kept p hs h→h.nx=hs.nx→h.get p=some (.cells (setFrom C o (aA .u8 (l.take k++W))) f false)→∀x:Nat→AV,
  ∃(a:Nat×Nat) (h':ah),(∃y:Nat→AV,Ev env (aQ d) (.loop xr) ⟨((AV.slice p o n c op)::(ae u)::(x 2)::(x 3)::(ag k)::rx x 5 162 []),h,ds,rc⟩ (.exit 0) ⟨((AV.slice p o n c op)::(ae a.2)::(y 2)::(y 3)::(ag a.1)::rx y 5 162 []),h',ds,rc⟩)∧a.1<8∧∃W,W.length+a.1=n∧dW U n=dW a.2 a.1++W∧a.2<10^a.1∧Tidy h'∧Kept p hs h'∧h'.nx=hs.nx∧h'.get p=some (.cells (setFrom C o (aA .u8 (l.take a.1++W))) f false):=by
 induction m with
 | zero=>
  intro k u h W hk hW hd hu E3 aw kp hx hg x
  have q1:=cI (8≤(k:Int))
  have ev:=vG (d) xr ((AV.slice p o n c op)::(ae u)::(x 2)::(x 3)::(ag k)::rx x 5 162 []) h ds rc (.exit 0) h (CC<|VV (bV 3 false true .i64 (k:Int) 8)<|BB q1<|ZZ) k!
  exact ⟨(k,u),h,cT (Ev.out ev) k!,by omega,W,hW,hd,hu,aw,kp,hx,hg⟩
 | succ m ih=>
  intro k u h W hk hW hd hu E3 aw kp hx hg x
  by_cases q:k<8
  · have q1:=cI (8≤(k:Int))
    have ev:=vG (d) xr ((AV.slice p o n c op)::(ae u)::(x 2)::(x 3)::(ag k)::rx x 5 162 []) h ds rc (.exit 0) h (CC<|VV (bV 3 false true .i64 (k:Int) 8)<|BB q1<|ZZ) k!
    exact ⟨(k,u),h,cT (Ev.out ev) k!,by omega,W,hW,hd,hu,aw,kp,hx,hg⟩
  · obtain ⟨D,hD⟩:∃D,D=l.take k++W:=⟨_,rfl⟩
    rw[←hD] at hg
    have GC:D.length=n:=by rw[hD];simp;omega
    have ex:IntKind.u32.wrap ((u%100000000:Nat):Int)=((u%100000000:Nat):Int):=wrap_u32 o!
    have q1:=dg (8≤(k:Int))
    have u2:=afV 54 false true u 100000000
    have u3:=afU 54 false true u 100000000
    have u4:aI env .quo 208 false true (some (gF (IntKind.u32.wrap ((u%100000000:Nat):Int)))) (some (gF 10000))=some (qo ((u%100000000) /10000)):=by rw[ex];exact l7 (k:= .u32) (a:=(u%100000000)) (b:=10000) o! (wrap_u32 o!)
    have u5:aI env .rem 208 false true (some (gF (IntKind.u32.wrap ((u%100000000:Nat):Int)))) (some (gF 10000))=some (qo ((u%100000000)%10000)):=by rw[ex];exact l8 (k:= .u32) (a:=(u%100000000)) (b:=10000) o!
    have u6:=Pd 208 false true ((u%100000000)%10000) 100
    have u7:=zk 208 false true (((u%100000000)%10000) /100) 2
    have u8:=Pe 208 false true ((u%100000000)%10000) 100
    have u9:=zk 208 false true (((u%100000000)%10000)%100) 2
    have BM:=Pd 208 false true ((u%100000000) /10000) 100
    have nk:=zk 208 false true (((u%100000000) /10000) /100) 2
    have Oj:=Pe 208 false true ((u%100000000) /10000) 100
    have YD:=zk 208 false true (((u%100000000) /10000)%100) 2
    have w14:=fS ((k:Int) - 1)
    have w15:=fS ((k:Int) - 2)
    have u16:=uZ 208 false true ((((u%100000000)%10000)%100)*2) 1
    have alL:=kd (A:=(((u%100000000)%10000)%100)) o!
    have alM:=j_ (A:=(((u%100000000)%10000)%100)) o!
    have Z':bq env (some (.slice 5)) (some (AV.slice p o n c op)) (some (af ((k:Int) - 1)))=some (AV.ptr p (o+(k - 1))):=a8 k! (show (k - 1)<n by omega) o!
    obtain ⟨Fq,tN,B4,mO,JC⟩:=iJ 5 (k - 1) (48+(((u%100000000)%10000)%100)%10) aw o! hg (show (k - 1)<D.length by omega)
    obtain ⟨D21,Hm⟩:∃q_,q_=D.set (k - 1) (48+(((u%100000000)%10000)%100)%10):=⟨_,rfl⟩
    have sq:=B4.2.1
    rw[←Hm] at sq
    have aeX:D21.length=n:=by rw[Hm,List.length_set];exact GC
    have mP:Kept p h Fq:=B4.2.2
    have agz:bq env (some (.slice 5)) (some (AV.slice p o n c op)) (some (af ((k:Int) - 2)))=some (AV.ptr p (o+(k - 2))):=a8 k! (show (k - 2)<n by omega) o!
    obtain ⟨h23,Z7,aeY,GQ,Zs⟩:=iJ 5 (k - 2) (48+(((u%100000000)%10000)%100) /10) mO o! sq (show (k - 2)<D21.length by omega)
    obtain ⟨D24,aap⟩:∃q_,q_=D21.set (k - 2) (48+(((u%100000000)%10000)%100) /10):=⟨_,rfl⟩
    have zR:=aeY.2.1
    rw[←aap] at zR
    have aiW:D24.length=n:=by rw[aap,List.length_set];exact aeX
    have Eh:Kept p h h23:=mP.trans aeY.2.2
    have w25:=fS ((k:Int) - 3)
    have w26:=fS ((k:Int) - 4)
    have u27:=uZ 208 false true ((((u%100000000)%10000) /100)*2) 1
    have alN:=kd (A:=(((u%100000000)%10000) /100)) o!
    have alO:=j_ (A:=(((u%100000000)%10000) /100)) o!
    have alP:bq env (some (.slice 5)) (some (AV.slice p o n c op)) (some (af ((k:Int) - 3)))=some (AV.ptr p (o+(k - 3))):=a8 k! (show (k - 3)<n by omega) o!
    obtain ⟨h31,aiX,aeZ,Z0,aiD⟩:=iJ 5 (k - 3) (48+(((u%100000000)%10000) /100)%10) GQ o! zR (show (k - 3)<D24.length by omega)
    obtain ⟨D32,aaq⟩:∃q_,q_=D24.set (k - 3) (48+(((u%100000000)%10000) /100)%10):=⟨_,rfl⟩
    have ae0:=aeZ.2.1
    rw[←aaq] at ae0
    have aiY:D32.length=n:=by rw[aaq,List.length_set];exact aiW
    have Z4:Kept p h h31:=Eh.trans aeZ.2.2
    have agA:bq env (some (.slice 5)) (some (AV.slice p o n c op)) (some (af ((k:Int) - 4)))=some (AV.ptr p (o+(k - 4))):=a8 k! (show (k - 4)<n by omega) o!
    obtain ⟨V6,O5,JI,G6,aeP⟩:=iJ 5 (k - 4) (48+(((u%100000000)%10000) /100) /10) Z0 o! ae0 (show (k - 4)<D32.length by omega)
    obtain ⟨D35,Hn⟩:∃q_,q_=D32.set (k - 4) (48+(((u%100000000)%10000) /100) /10):=⟨_,rfl⟩
    have En:=JI.2.1
    rw[←Hn] at En
    have ae1:D35.length=n:=by rw[Hn,List.length_set];exact aiY
    have G7:Kept p h V6:=Z4.trans JI.2.2
    have w36:=fS ((k:Int) - 5)
    have w37:=fS ((k:Int) - 6)
    have u38:=uZ 208 false true ((((u%100000000) /10000)%100)*2) 1
    have alQ:=kd (A:=(((u%100000000) /10000)%100)) o!
    have alR:=j_ (A:=(((u%100000000) /10000)%100)) o!
    have alS:bq env (some (.slice 5)) (some (AV.slice p o n c op)) (some (af ((k:Int) - 5)))=some (AV.ptr p (o+(k - 5))):=a8 k! (show (k - 5)<n by omega) o!
    obtain ⟨h42,aiZ,ae2,ai0,amI⟩:=iJ 5 (k - 5) (48+(((u%100000000) /10000)%100)%10) G6 o! En (show (k - 5)<D35.length by omega)
    obtain ⟨D43,aar⟩:∃q_,q_=D35.set (k - 5) (48+(((u%100000000) /10000)%100)%10):=⟨_,rfl⟩
    have ae3:=ae2.2.1
    rw[←aar] at ae3
    have ai1:D43.length=n:=by rw[aar,List.length_set];exact ae1
    have ai2:Kept p h h42:=G7.trans ae2.2.2
    have alT:bq env (some (.slice 5)) (some (AV.slice p o n c op)) (some (af ((k:Int) - 6)))=some (AV.ptr p (o+(k - 6))):=a8 k! (show (k - 6)<n by omega) o!
    obtain ⟨h45,ai3,ae4,ai4,amJ⟩:=iJ 5 (k - 6) (48+(((u%100000000) /10000)%100) /10) ai0 o! ae3 (show (k - 6)<D43.length by omega)
    obtain ⟨D46,aas⟩:∃q_,q_=D43.set (k - 6) (48+(((u%100000000) /10000)%100) /10):=⟨_,rfl⟩
    have ae5:=ae4.2.1
    rw[←aas] at ae5
    have ai5:D46.length=n:=by rw[aas,List.length_set];exact ai1
    have ai6:Kept p h h45:=ai2.trans ae4.2.2
    have w47:=fS ((k:Int) - 7)
    have w48:=fS ((k:Int) - 8)
    have u49:=uZ 208 false true ((((u%100000000) /10000) /100)*2) 1
    have alU:=kd (A:=(((u%100000000) /10000) /100)) o!
    have alV:=j_ (A:=(((u%100000000) /10000) /100)) o!
    have alW:bq env (some (.slice 5)) (some (AV.slice p o n c op)) (some (af ((k:Int) - 7)))=some (AV.ptr p (o+(k - 7))):=a8 k! (show (k - 7)<n by omega) o!
    obtain ⟨h53,ai7,ae6,ai8,amK⟩:=iJ 5 (k - 7) (48+(((u%100000000) /10000) /100)%10) ai4 o! ae5 (show (k - 7)<D46.length by omega)
    obtain ⟨D54,aat⟩:∃q_,q_=D46.set (k - 7) (48+(((u%100000000) /10000) /100)%10):=⟨_,rfl⟩
    have ae7:=ae6.2.1
    rw[←aat] at ae7
    have ai9:D54.length=n:=by rw[aat,List.length_set];exact ai5
    have aja:Kept p h h53:=ai6.trans ae6.2.2
    have alX:bq env (some (.slice 5)) (some (AV.slice p o n c op)) (some (af ((k:Int) - 8)))=some (AV.ptr p (o+(k - 8))):=a8 k! (show (k - 8)<n by omega) o!
    obtain ⟨h56,ajb,ae8,ajc,amL⟩:=iJ 5 (k - 8) (48+(((u%100000000) /10000) /100) /10) ai8 o! ae7 (show (k - 8)<D54.length by omega)
    obtain ⟨D57,aau⟩:∃q_,q_=D54.set (k - 8) (48+(((u%100000000) /10000) /100) /10):=⟨_,rfl⟩
    have ae9:=ae8.2.1
    rw[←aau] at ae9
    have amM:D57.length=n:=by rw[aau,List.length_set];exact ai9
    have ajd:Kept p h h56:=aja.trans ae8.2.2
    have ev:=vG (d) xr ((AV.slice p o n c op)::(ae u)::(x 2)::(x 3)::(ag k)::rx x 5 162 []) h ds rc .normal h56 (CC<|VV (bV 3 false true .i64 (k:Int) 8)<|BB q1<|CC<|VV u2<|CN 3<|VV u3<|CN 2<|VV u4<|CC<|VV u5<|CN 3<|VV u6<|VV u7<|CC<|VV u8<|VV u9<|CN 3<|VV BM<|VV nk<|CC<|VV Oj<|VV YD<|CN 4<|VV (bT 3 false true w14)<|CN 2<|VV (bT 3 false true w15)<|CC<|VV u16<|VV alL<|CC<|VV alM<|VV Z'<|SS tN<|VV agz<|SS Z7<|CN 2<|VV (bT 3 false true w25)<|CN 2<|VV (bT 3 false true w26)<|CC<|VV u27<|VV alN<|CC<|VV alO<|VV alP<|SS aiX<|VV agA<|SS O5<|CN 2<|VV (bT 3 false true w36)<|CN 2<|VV (bT 3 false true w37)<|CC<|VV u38<|VV alQ<|CC<|VV alR<|VV alS<|SS aiZ<|VV alT<|SS ai3<|CN 2<|VV (bT 3 false true w47)<|CN 2<|VV (bT 3 false true w48)<|CC<|VV u49<|VV alU<|CC<|VV alV<|VV alW<|SS ai7<|VV alX<|SS ajb<|CC<|VV (bT 3 false true w48)<|CC<|ZZ) k!
    have e8:dW u k=dW (u/100000000) (k - 8)++d8 u:=by
     have:=dW8 u (k - 8)
     rw[show k - 8+8=k by omega] at this
     exact this
    have eL:D57=l.take (k - 8)++(d8 u++W):=by
     rw[aau,aat,aas,aar,Hn,aaq,aap,Hm,hD,alK o! o!]
     rfl
    have g1:=ae9
    rw[eL] at g1
    have hu8:u/100000000<10^(k - 8):=by
     rw[Nat.div_lt_iff_lt_mul o!,show (100000000:Nat)=10^8 by rfl,←Nat.pow_add,show k - 8+8=k by omega]
     exact hu
    refine bp (tin:=fun x=>((AV.slice p o n c op)::(ae (u/100000000))::(x 2)::(x 3)::(ag (k - 8))::rx x 5 162 [])) ev (by rw[show (k:Int) - 8=((k - 8:Nat):Int) by omega];kernel_rfl) fun x=>ih (k - 8) (u/100000000) h56 _ o! ?_ ?_ hu8 o! ajc (kp.trans ajd) o! g1 x
    · rw[List.length_append,show (d8 u).length=8 from rfl];omega
    · rw[hd,e8,List.append_assoc]
section
variable {d k v:Nat} {h hl:ah} {l W D:List Nat} {u p o n c:Nat} {op:Bool} {C:List AV} {f:TypeId} {yl:Nat→AV}
structure FB (d:Nat) (h:ah) (l:List Nat) (u p o n c:Nat) (op:Bool) (C:List AV) (f:TypeId) (k v:Nat) (hl:ah) (yl:Nat→AV) (W D:List Nat):Prop where
 hn:l.length=n
 gD:n<2^60
 hf:o+n≤C.length
 uR:h.get p=some (.cells C f false)
 aw:Tidy h
 cf:Ev env (aQ d) (.loop xr) ⟨((AV.slice p o n c op)::(ae u)::aB::aB::(ag n)::KR 12 ((AV.slice p o n c op)::(ag n)::aV 148)),h,[],.no⟩ (.exit 0) ⟨((AV.slice p o n c op)::(ae v)::(yl 2)::(yl 3)::(ag k)::rx yl 5 162 []),hl,[],.no⟩
 hk8:k<8
 hW:W.length+k=n
 Lq:dW u n=dW v k++W
 hv:v<10^k
 np:Tidy hl
 vN:Kept p h hl
 IL:hl.nx=h.nx
 rO:hl.get p=some (.cells (setFrom C o (aA .u8 D)) f false)
 hD:D=l.take k++W
 GC:D.length=n
 hv7:v<10000000
 vQ:IntKind.u32.wrap (v:Int)=(v:Int)
def FG (d:Nat) (h:ah) (u p o n c:Nat) (op:Bool) (C:List AV) (f:TypeId):Prop:=∃hk,aQ (d+1) (.fn 96) [.slice p o n c op,.int .u64 (u:Nat)] h= .ret (.tuple []) hk∧nj h hk p (.cells (setFrom C o (aA .u8 (dW u n))) f false)∧hk.nx=h.nx
theorem adg (x:FB d h l u p o n c op C f k v hl yl W D) (hk:k=7):FG d h u p o n c op C f:=by
 obtain ⟨hn,gD,hf,uR,aw,cf,hk8,hW,Lq,hv,np,vN,IL,rO,hD,GC,hv7,vQ⟩:=x
 have Rl:v<10000000:=by have:=hv;rw[hk] at this;exact this
 have qT:Kept p h hl:=vN
 have q1:=dg (4≤(k:Int))
 have u2:aI env .rem 208 false true (some (gF (IntKind.u32.wrap (v:Int)))) (some (gF 10000))=some (qo (v%10000)):=by rw[vQ];exact l8 (k:= .u32) (a:=v) (b:=10000) o!
 have u3:aI env .quo 208 false true (some (gF (IntKind.u32.wrap (v:Int)))) (some (gF 10000))=some (qo (v/10000)):=by rw[vQ];exact l7 (k:= .u32) (a:=v) (b:=10000) o! (wrap_u32 o!)
 have u4:=Pd 208 false true (v%10000) 100
 have u5:=zk 208 false true ((v%10000) /100) 2
 have u6:=Pe 208 false true (v%10000) 100
 have u7:=zk 208 false true ((v%10000)%100) 2
 have w8:=fS ((k:Int) - 1)
 have w9:=fS ((k:Int) - 2)
 have BM:=uZ 208 false true (((v%10000)%100)*2) 1
 have Sr:=kd (A:=((v%10000)%100)) o!
 have Ss:=j_ (A:=((v%10000)%100)) o!
 have Ho:bq env (some (.slice 5)) (some (AV.slice p o n c op)) (some (af ((k:Int) - 1)))=some (AV.ptr p (o+(k - 1))):=a8 k! (show (k - 1)<n by omega) o!
 obtain ⟨pP,jc,mF,dS,oZ⟩:=iJ 5 (k - 1) (48+((v%10000)%100)%10) np o! rO (show (k - 1)<D.length by omega)
 obtain ⟨Su,qU⟩:∃q_,q_=D.set (k - 1) (48+((v%10000)%100)%10):=⟨_,rfl⟩
 have fE:=mF.2.1
 rw[←qU] at fE
 have Hp:Su.length=n:=by rw[qU,List.length_set];exact GC
 have fm:Kept p h pP:=qT.trans mF.2.2
 have Sv:bq env (some (.slice 5)) (some (AV.slice p o n c op)) (some (af ((k:Int) - 2)))=some (AV.ptr p (o+(k - 2))):=a8 k! (show (k - 2)<n by omega) o!
 obtain ⟨E0,tM,o_,ij,G4⟩:=iJ 5 (k - 2) (48+((v%10000)%100) /10) dS o! fE (show (k - 2)<Su.length by omega)
 obtain ⟨Sw,qV⟩:∃q_,q_=Su.set (k - 2) (48+((v%10000)%100) /10):=⟨_,rfl⟩
 have mN:=o_.2.1
 rw[←qV] at mN
 have Hq:Sw.length=n:=by rw[qV,List.length_set];exact Hp
 have iE:Kept p h E0:=fm.trans o_.2.2
 have w19:=fS ((k:Int) - 3)
 have V3:=fS ((k:Int) - 4)
 have Zr:=uZ 208 false true (((v%10000) /100)*2) 1
 have Sx:=kd (A:=((v%10000) /100)) o!
 have Sy:=j_ (A:=((v%10000) /100)) o!
 have GR:bq env (some (.slice 5)) (some (AV.slice p o n c op)) (some (af ((k:Int) - 3)))=some (AV.ptr p (o+(k - 3))):=a8 k! (show (k - 3)<n by omega) o!
 obtain ⟨Ub,wZ,qE,qF,Jx⟩:=iJ 5 (k - 3) (48+((v%10000) /100)%10) ij o! mN (show (k - 3)<Sw.length by omega)
 obtain ⟨Sz,qW⟩:∃q_,q_=Sw.set (k - 3) (48+((v%10000) /100)%10):=⟨_,rfl⟩
 have tS:=qE.2.1
 rw[←qW] at tS
 have Hr:Sz.length=n:=by rw[qW,List.length_set];exact Hq
 have o7:Kept p h Ub:=iE.trans qE.2.2
 have SA:bq env (some (.slice 5)) (some (AV.slice p o n c op)) (some (af ((k:Int) - 4)))=some (AV.ptr p (o+(k - 4))):=a8 k! (show (k - 4)<n by omega) o!
 obtain ⟨Qq,Hs,xu,xe,Um⟩:=iJ 5 (k - 4) (48+((v%10000) /100) /10) qF o! tS (show (k - 4)<Sz.length by omega)
 obtain ⟨Qx,qX⟩:∃q_,q_=Sz.set (k - 4) (48+((v%10000) /100) /10):=⟨_,rfl⟩
 have qJ:=xu.2.1
 rw[←qX] at qJ
 have JJ:Qx.length=n:=by rw[qX,List.length_set];exact Hr
 have xf:Kept p h Qq:=o7.trans xu.2.2
 have q30:=dg (2≤((k:Int) - 4))
 have u31:=Pe 208 false true (v/10000) 100
 have u32:=zk 208 false true ((v/10000)%100) 2
 have u33:=Pd 208 false true (v/10000) 100
 have w34:=fS (((k:Int) - 4) - 1)
 have w35:=fS (((k:Int) - 4) - 2)
 have u36:=uZ 208 false true (((v/10000)%100)*2) 1
 have agB:=kd (A:=((v/10000)%100)) o!
 have agC:=j_ (A:=((v/10000)%100)) o!
 have agD:bq env (some (.slice 5)) (some (AV.slice p o n c op)) (some (af (((k:Int) - 4) - 1)))=some (AV.ptr p (o+(k - 5))):=a8 k! (show (k - 5)<n by omega) o!
 obtain ⟨h40,aav,Pg,aaw,aje⟩:=iJ 5 (k - 5) (48+((v/10000)%100)%10) xe o! qJ (show (k - 5)<Qx.length by omega)
 obtain ⟨D41,Ht⟩:∃q_,q_=Qx.set (k - 5) (48+((v/10000)%100)%10):=⟨_,rfl⟩
 have Pj:=Pg.2.1
 rw[←Ht] at Pj
 have aax:D41.length=n:=by rw[Ht,List.length_set];exact JJ
 have aay:Kept p h h40:=xf.trans Pg.2.2
 have agE:bq env (some (.slice 5)) (some (AV.slice p o n c op)) (some (af (((k:Int) - 4) - 2)))=some (AV.ptr p (o+(k - 6))):=a8 k! (show (k - 6)<n by omega) o!
 obtain ⟨h43,aaz,Pl,aaA,ajf⟩:=iJ 5 (k - 6) (48+((v/10000)%100) /10) aaw o! Pj (show (k - 6)<D41.length by omega)
 obtain ⟨D44,Hu⟩:∃q_,q_=D41.set (k - 6) (48+((v/10000)%100) /10):=⟨_,rfl⟩
 have Hv:=Pl.2.1
 rw[←Hu] at Hv
 have afa:D44.length=n:=by rw[Hu,List.length_set];exact aax
 have aaB:Kept p h h43:=aay.trans Pl.2.2
 have q45:=dg (0<(((k:Int) - 4) - 2))
 have u46:=uZ 208 true false 48 ((v/10000) /100)
 have alY:bq env (some (.slice 5)) (some (AV.slice p o n c op)) (some (af 0))=some (AV.ptr p (o+0)):=a8 k! (show 0<n by omega) o!
 obtain ⟨h48,aaC⟩:∃hh:ah,hh=h43.put p (some (ar.cells (setFrom C o (aA .u8 (D44.set 0 (48+((v/10000) /100))))) f false)):=⟨_,rfl⟩
 have ajg:ch env h43 5 (AV.ptr p (o+0)) (bj (IntKind.u8.wrap ((48+((v/10000) /100):Nat):Int)))=some h48:=by rw[aaC,(wrap_u8 (n:=48+((v/10000) /100)) o!)];exact tm k! o! Hv (show 0<D44.length by omega)
 have aaD:nj h43 h48 p (ar.cells (setFrom C o (aA .u8 (D44.set 0 (48+((v/10000) /100))))) f false):=by rw[aaC];exact il aaA Hv
 have ajh:=aaD.1
 have amN:h48.nx=h43.nx:=by rw[aaC];rfl
 obtain ⟨D49,aaE⟩:∃q_,q_=D44.set 0 (48+((v/10000) /100)):=⟨_,rfl⟩
 have aaF:=aaD.2.1
 rw[←aaE] at aaF
 have amO:D49.length=n:=by rw[aaE,List.length_set];exact afa
 have aji:Kept p h h48:=aaB.trans aaD.2.2
 have ev:=pk (d) jf ((AV.slice p o n c op)::(ae u)::aV 165) h .normal h48 (CN 3<|LL cf<|CN 4<|VV (bV 3 false true .i64 (k:Int) 4)<|BB q1<|CC<|VV u2<|CN 2<|VV u3<|CN 2<|VV u4<|VV u5<|CC<|VV u6<|VV u7<|CN 4<|VV (bT 3 false true w8)<|CN 2<|VV (bT 3 false true w9)<|CC<|VV BM<|VV Sr<|CC<|VV Ss<|VV Ho<|SS jc<|VV Sv<|SS tM<|CN 2<|VV (bT 3 false true w19)<|CN 2<|VV (bT 3 false true V3)<|CC<|VV Zr<|VV Sx<|CC<|VV Sy<|VV GR<|SS wZ<|VV SA<|SS Hs<|CC<|VV (bT 3 false true V3)<|CN 2<|VV (bV 3 false true .i64 ((k:Int) - 4) 2)<|BB q30<|CC<|VV u31<|VV u32<|CN 2<|VV u33<|CN 3<|VV (bT 3 false true w34)<|CN 2<|VV (bT 3 false true w35)<|CC<|VV u36<|VV agB<|CC<|VV agC<|VV agD<|SS aav<|VV agE<|SS aaz<|CC<|VV (bT 3 false true w35)<|CN 2<|VV (bM 3 false true .i64 (((k:Int) - 4) - 2) 0)<|BB q45<|CN 2<|VV u46<|CC<|VV alY<|SS ajg<|ZZ) k!
 have e:D49=dW u n:=by
  rw[aaE,Hu,Ht,qX,qW,qV,qU,Lq,hD,zn (k:=(k - 2)) (m:=k) (i:=(k - 1)) (j:=(k - 2)) o! o! o! o!,zn (k:=(k - 4)) (m:=(k - 2)) (i:=(k - 3)) (j:=(k - 4)) o! o! o! o!,zn (k:=(k - 6)) (m:=(k - 4)) (i:=(k - 5)) (j:=(k - 6)) o! o! o! o!,adf (m:=(k - 6)) o! o!,hk]
  simp only[dW,List.take_zero,Nat.sub_self,List.nil_append,List.cons_append,List.append_assoc]
  simp only[List.cons.injEq,and_true]
  (repeat' apply And.intro)<;>omega
 rw[e] at aaF
 exact dQ rfl (az Tryz.func96 xq k! (.inl rfl) ev k!) ⟨ajh,aaF,aji⟩ aw uR o!
theorem adh (x:FB d h l u p o n c op C f k v hl yl W D) (hk:k=6):FG d h u p o n c op C f:=by
 obtain ⟨hn,gD,hf,uR,aw,cf,hk8,hW,Lq,hv,np,vN,IL,rO,hD,GC,hv7,vQ⟩:=x
 have Rl:v<1000000:=by have:=hv;rw[hk] at this;exact this
 have qT:Kept p h hl:=vN
 have q1:=dg (4≤(k:Int))
 have u2:aI env .rem 208 false true (some (gF (IntKind.u32.wrap (v:Int)))) (some (gF 10000))=some (qo (v%10000)):=by rw[vQ];exact l8 (k:= .u32) (a:=v) (b:=10000) o!
 have u3:aI env .quo 208 false true (some (gF (IntKind.u32.wrap (v:Int)))) (some (gF 10000))=some (qo (v/10000)):=by rw[vQ];exact l7 (k:= .u32) (a:=v) (b:=10000) o! (wrap_u32 o!)
 have u4:=Pd 208 false true (v%10000) 100
 have u5:=zk 208 false true ((v%10000) /100) 2
 have u6:=Pe 208 false true (v%10000) 100
 have u7:=zk 208 false true ((v%10000)%100) 2
 have w8:=fS ((k:Int) - 1)
 have w9:=fS ((k:Int) - 2)
 have BM:=uZ 208 false true (((v%10000)%100)*2) 1
 have Sr:=kd (A:=((v%10000)%100)) o!
 have Ss:=j_ (A:=((v%10000)%100)) o!
 have Ho:bq env (some (.slice 5)) (some (AV.slice p o n c op)) (some (af ((k:Int) - 1)))=some (AV.ptr p (o+(k - 1))):=a8 k! (show (k - 1)<n by omega) o!
 obtain ⟨pP,jc,mF,dS,oZ⟩:=iJ 5 (k - 1) (48+((v%10000)%100)%10) np o! rO (show (k - 1)<D.length by omega)
 obtain ⟨Su,qU⟩:∃q_,q_=D.set (k - 1) (48+((v%10000)%100)%10):=⟨_,rfl⟩
 have fE:=mF.2.1
 rw[←qU] at fE
 have Hp:Su.length=n:=by rw[qU,List.length_set];exact GC
 have fm:Kept p h pP:=qT.trans mF.2.2
 have Sv:bq env (some (.slice 5)) (some (AV.slice p o n c op)) (some (af ((k:Int) - 2)))=some (AV.ptr p (o+(k - 2))):=a8 k! (show (k - 2)<n by omega) o!
 obtain ⟨E0,tM,o_,ij,G4⟩:=iJ 5 (k - 2) (48+((v%10000)%100) /10) dS o! fE (show (k - 2)<Su.length by omega)
 obtain ⟨Sw,qV⟩:∃q_,q_=Su.set (k - 2) (48+((v%10000)%100) /10):=⟨_,rfl⟩
 have mN:=o_.2.1
 rw[←qV] at mN
 have Hq:Sw.length=n:=by rw[qV,List.length_set];exact Hp
 have iE:Kept p h E0:=fm.trans o_.2.2
 have w19:=fS ((k:Int) - 3)
 have V3:=fS ((k:Int) - 4)
 have Zr:=uZ 208 false true (((v%10000) /100)*2) 1
 have Sx:=kd (A:=((v%10000) /100)) o!
 have Sy:=j_ (A:=((v%10000) /100)) o!
 have GR:bq env (some (.slice 5)) (some (AV.slice p o n c op)) (some (af ((k:Int) - 3)))=some (AV.ptr p (o+(k - 3))):=a8 k! (show (k - 3)<n by omega) o!
 obtain ⟨Ub,wZ,qE,qF,Jx⟩:=iJ 5 (k - 3) (48+((v%10000) /100)%10) ij o! mN (show (k - 3)<Sw.length by omega)
 obtain ⟨Sz,qW⟩:∃q_,q_=Sw.set (k - 3) (48+((v%10000) /100)%10):=⟨_,rfl⟩
 have tS:=qE.2.1
 rw[←qW] at tS
 have Hr:Sz.length=n:=by rw[qW,List.length_set];exact Hq
 have o7:Kept p h Ub:=iE.trans qE.2.2
 have SA:bq env (some (.slice 5)) (some (AV.slice p o n c op)) (some (af ((k:Int) - 4)))=some (AV.ptr p (o+(k - 4))):=a8 k! (show (k - 4)<n by omega) o!
 obtain ⟨Qq,Hs,xu,xe,Um⟩:=iJ 5 (k - 4) (48+((v%10000) /100) /10) qF o! tS (show (k - 4)<Sz.length by omega)
 obtain ⟨Qx,qX⟩:∃q_,q_=Sz.set (k - 4) (48+((v%10000) /100) /10):=⟨_,rfl⟩
 have qJ:=xu.2.1
 rw[←qX] at qJ
 have JJ:Qx.length=n:=by rw[qX,List.length_set];exact Hr
 have xf:Kept p h Qq:=o7.trans xu.2.2
 have q30:=dg (2≤((k:Int) - 4))
 have u31:=Pe 208 false true (v/10000) 100
 have u32:=zk 208 false true ((v/10000)%100) 2
 have u33:=Pd 208 false true (v/10000) 100
 have w34:=fS (((k:Int) - 4) - 1)
 have w35:=fS (((k:Int) - 4) - 2)
 have u36:=uZ 208 false true (((v/10000)%100)*2) 1
 have agB:=kd (A:=((v/10000)%100)) o!
 have agC:=j_ (A:=((v/10000)%100)) o!
 have agD:bq env (some (.slice 5)) (some (AV.slice p o n c op)) (some (af (((k:Int) - 4) - 1)))=some (AV.ptr p (o+(k - 5))):=a8 k! (show (k - 5)<n by omega) o!
 obtain ⟨h40,aav,Pg,aaw,aje⟩:=iJ 5 (k - 5) (48+((v/10000)%100)%10) xe o! qJ (show (k - 5)<Qx.length by omega)
 obtain ⟨D41,Ht⟩:∃q_,q_=Qx.set (k - 5) (48+((v/10000)%100)%10):=⟨_,rfl⟩
 have Pj:=Pg.2.1
 rw[←Ht] at Pj
 have aax:D41.length=n:=by rw[Ht,List.length_set];exact JJ
 have aay:Kept p h h40:=xf.trans Pg.2.2
 have agE:bq env (some (.slice 5)) (some (AV.slice p o n c op)) (some (af (((k:Int) - 4) - 2)))=some (AV.ptr p (o+(k - 6))):=a8 k! (show (k - 6)<n by omega) o!
 obtain ⟨h43,aaz,Pl,aaA,ajf⟩:=iJ 5 (k - 6) (48+((v/10000)%100) /10) aaw o! Pj (show (k - 6)<D41.length by omega)
 obtain ⟨D44,Hu⟩:∃q_,q_=D41.set (k - 6) (48+((v/10000)%100) /10):=⟨_,rfl⟩
 have Hv:=Pl.2.1
 rw[←Hu] at Hv
 have afa:D44.length=n:=by rw[Hu,List.length_set];exact aax
 have aaB:Kept p h h43:=aay.trans Pl.2.2
 have q45:=cI (0<(((k:Int) - 4) - 2))
 have ev:=pk (d) jf ((AV.slice p o n c op)::(ae u)::aV 165) h .normal h43 (CN 3<|LL cf<|CN 4<|VV (bV 3 false true .i64 (k:Int) 4)<|BB q1<|CC<|VV u2<|CN 2<|VV u3<|CN 2<|VV u4<|VV u5<|CC<|VV u6<|VV u7<|CN 4<|VV (bT 3 false true w8)<|CN 2<|VV (bT 3 false true w9)<|CC<|VV BM<|VV Sr<|CC<|VV Ss<|VV Ho<|SS jc<|VV Sv<|SS tM<|CN 2<|VV (bT 3 false true w19)<|CN 2<|VV (bT 3 false true V3)<|CC<|VV Zr<|VV Sx<|CC<|VV Sy<|VV GR<|SS wZ<|VV SA<|SS Hs<|CC<|VV (bT 3 false true V3)<|CN 2<|VV (bV 3 false true .i64 ((k:Int) - 4) 2)<|BB q30<|CC<|VV u31<|VV u32<|CN 2<|VV u33<|CN 3<|VV (bT 3 false true w34)<|CN 2<|VV (bT 3 false true w35)<|CC<|VV u36<|VV agB<|CC<|VV agC<|VV agD<|SS aav<|VV agE<|SS aaz<|CC<|VV (bT 3 false true w35)<|CN 2<|VV (bM 3 false true .i64 (((k:Int) - 4) - 2) 0)<|BB q45<|ZZ) k!
 have e:D44=dW u n:=by
  rw[Hu,Ht,qX,qW,qV,qU,Lq,hD,zn (k:=(k - 2)) (m:=k) (i:=(k - 1)) (j:=(k - 2)) o! o! o! o!,zn (k:=(k - 4)) (m:=(k - 2)) (i:=(k - 3)) (j:=(k - 4)) o! o! o! o!,zn (k:=(k - 6)) (m:=(k - 4)) (i:=(k - 5)) (j:=(k - 6)) o! o! o! o!,hk]
  simp only[dW,List.take_zero,Nat.sub_self,List.nil_append,List.cons_append,List.append_assoc]
  simp only[List.cons.injEq,and_true]
  (repeat' apply And.intro)<;>omega
 rw[e] at Hv
 exact dQ rfl (az Tryz.func96 xq k! (.inl rfl) ev k!) ⟨aaA,Hv,aaB⟩ aw uR o!
theorem adi (x:FB d h l u p o n c op C f k v hl yl W D) (hk:k=5):FG d h u p o n c op C f:=by
 obtain ⟨hn,gD,hf,uR,aw,cf,hk8,hW,Lq,hv,np,vN,IL,rO,hD,GC,hv7,vQ⟩:=x
 have Rl:v<100000:=by have:=hv;rw[hk] at this;exact this
 have qT:Kept p h hl:=vN
 have q1:=dg (4≤(k:Int))
 have u2:aI env .rem 208 false true (some (gF (IntKind.u32.wrap (v:Int)))) (some (gF 10000))=some (qo (v%10000)):=by rw[vQ];exact l8 (k:= .u32) (a:=v) (b:=10000) o!
 have u3:aI env .quo 208 false true (some (gF (IntKind.u32.wrap (v:Int)))) (some (gF 10000))=some (qo (v/10000)):=by rw[vQ];exact l7 (k:= .u32) (a:=v) (b:=10000) o! (wrap_u32 o!)
 have u4:=Pd 208 false true (v%10000) 100
 have u5:=zk 208 false true ((v%10000) /100) 2
 have u6:=Pe 208 false true (v%10000) 100
 have u7:=zk 208 false true ((v%10000)%100) 2
 have w8:=fS ((k:Int) - 1)
 have w9:=fS ((k:Int) - 2)
 have BM:=uZ 208 false true (((v%10000)%100)*2) 1
 have Sr:=kd (A:=((v%10000)%100)) o!
 have Ss:=j_ (A:=((v%10000)%100)) o!
 have Ho:bq env (some (.slice 5)) (some (AV.slice p o n c op)) (some (af ((k:Int) - 1)))=some (AV.ptr p (o+(k - 1))):=a8 k! (show (k - 1)<n by omega) o!
 obtain ⟨pP,jc,mF,dS,oZ⟩:=iJ 5 (k - 1) (48+((v%10000)%100)%10) np o! rO (show (k - 1)<D.length by omega)
 obtain ⟨Su,qU⟩:∃q_,q_=D.set (k - 1) (48+((v%10000)%100)%10):=⟨_,rfl⟩
 have fE:=mF.2.1
 rw[←qU] at fE
 have Hp:Su.length=n:=by rw[qU,List.length_set];exact GC
 have fm:Kept p h pP:=qT.trans mF.2.2
 have Sv:bq env (some (.slice 5)) (some (AV.slice p o n c op)) (some (af ((k:Int) - 2)))=some (AV.ptr p (o+(k - 2))):=a8 k! (show (k - 2)<n by omega) o!
 obtain ⟨E0,tM,o_,ij,G4⟩:=iJ 5 (k - 2) (48+((v%10000)%100) /10) dS o! fE (show (k - 2)<Su.length by omega)
 obtain ⟨Sw,qV⟩:∃q_,q_=Su.set (k - 2) (48+((v%10000)%100) /10):=⟨_,rfl⟩
 have mN:=o_.2.1
 rw[←qV] at mN
 have Hq:Sw.length=n:=by rw[qV,List.length_set];exact Hp
 have iE:Kept p h E0:=fm.trans o_.2.2
 have w19:=fS ((k:Int) - 3)
 have V3:=fS ((k:Int) - 4)
 have Zr:=uZ 208 false true (((v%10000) /100)*2) 1
 have Sx:=kd (A:=((v%10000) /100)) o!
 have Sy:=j_ (A:=((v%10000) /100)) o!
 have GR:bq env (some (.slice 5)) (some (AV.slice p o n c op)) (some (af ((k:Int) - 3)))=some (AV.ptr p (o+(k - 3))):=a8 k! (show (k - 3)<n by omega) o!
 obtain ⟨Ub,wZ,qE,qF,Jx⟩:=iJ 5 (k - 3) (48+((v%10000) /100)%10) ij o! mN (show (k - 3)<Sw.length by omega)
 obtain ⟨Sz,qW⟩:∃q_,q_=Sw.set (k - 3) (48+((v%10000) /100)%10):=⟨_,rfl⟩
 have tS:=qE.2.1
 rw[←qW] at tS
 have Hr:Sz.length=n:=by rw[qW,List.length_set];exact Hq
 have o7:Kept p h Ub:=iE.trans qE.2.2
 have SA:bq env (some (.slice 5)) (some (AV.slice p o n c op)) (some (af ((k:Int) - 4)))=some (AV.ptr p (o+(k - 4))):=a8 k! (show (k - 4)<n by omega) o!
 obtain ⟨Qq,Hs,xu,xe,Um⟩:=iJ 5 (k - 4) (48+((v%10000) /100) /10) qF o! tS (show (k - 4)<Sz.length by omega)
 obtain ⟨Qx,qX⟩:∃q_,q_=Sz.set (k - 4) (48+((v%10000) /100) /10):=⟨_,rfl⟩
 have qJ:=xu.2.1
 rw[←qX] at qJ
 have JJ:Qx.length=n:=by rw[qX,List.length_set];exact Hr
 have xf:Kept p h Qq:=o7.trans xu.2.2
 have q30:=cI (2≤((k:Int) - 4))
 have q31:=dg (0<((k:Int) - 4))
 have u32:=uZ 208 true false 48 (v/10000)
 have agA:bq env (some (.slice 5)) (some (AV.slice p o n c op)) (some (af 0))=some (AV.ptr p (o+0)):=a8 k! (show 0<n by omega) o!
 obtain ⟨V6,aaG⟩:∃hh:ah,hh=Qq.put p (some (ar.cells (setFrom C o (aA .u8 (Qx.set 0 (48+(v/10000))))) f false)):=⟨_,rfl⟩
 have O5:ch env Qq 5 (AV.ptr p (o+0)) (bj (IntKind.u8.wrap ((48+(v/10000):Nat):Int)))=some V6:=by rw[aaG,(wrap_u8 (n:=48+(v/10000)) o!)];exact tm k! o! qJ (show 0<Qx.length by omega)
 have JI:nj Qq V6 p (ar.cells (setFrom C o (aA .u8 (Qx.set 0 (48+(v/10000))))) f false):=by rw[aaG];exact il xe qJ
 have G6:=JI.1
 have aeP:V6.nx=Qq.nx:=by rw[aaG];rfl
 obtain ⟨D35,Hn⟩:∃q_,q_=Qx.set 0 (48+(v/10000)):=⟨_,rfl⟩
 have En:=JI.2.1
 rw[←Hn] at En
 have ae1:D35.length=n:=by rw[Hn,List.length_set];exact JJ
 have G7:Kept p h V6:=xf.trans JI.2.2
 have ev:=pk (d) jf ((AV.slice p o n c op)::(ae u)::aV 165) h .normal V6 (CN 3<|LL cf<|CN 4<|VV (bV 3 false true .i64 (k:Int) 4)<|BB q1<|CC<|VV u2<|CN 2<|VV u3<|CN 2<|VV u4<|VV u5<|CC<|VV u6<|VV u7<|CN 4<|VV (bT 3 false true w8)<|CN 2<|VV (bT 3 false true w9)<|CC<|VV BM<|VV Sr<|CC<|VV Ss<|VV Ho<|SS jc<|VV Sv<|SS tM<|CN 2<|VV (bT 3 false true w19)<|CN 2<|VV (bT 3 false true V3)<|CC<|VV Zr<|VV Sx<|CC<|VV Sy<|VV GR<|SS wZ<|VV SA<|SS Hs<|CC<|VV (bT 3 false true V3)<|CN 2<|VV (bV 3 false true .i64 ((k:Int) - 4) 2)<|BB q30<|CC<|VV (bM 3 false true .i64 ((k:Int) - 4) 0)<|BB q31<|CN 2<|VV u32<|CC<|VV agA<|SS O5<|ZZ) k!
 have e:D35=dW u n:=by
  rw[Hn,qX,qW,qV,qU,Lq,hD,zn (k:=(k - 2)) (m:=k) (i:=(k - 1)) (j:=(k - 2)) o! o! o! o!,zn (k:=(k - 4)) (m:=(k - 2)) (i:=(k - 3)) (j:=(k - 4)) o! o! o! o!,adf (m:=(k - 4)) o! o!,hk]
  simp only[dW,List.take_zero,Nat.sub_self,List.nil_append,List.cons_append,List.append_assoc]
  simp only[List.cons.injEq,and_true]
  (repeat' apply And.intro)<;>omega
 rw[e] at En
 exact dQ rfl (az Tryz.func96 xq k! (.inl rfl) ev k!) ⟨G6,En,G7⟩ aw uR o!
theorem adj (x:FB d h l u p o n c op C f k v hl yl W D) (hk:k=4):FG d h u p o n c op C f:=by
 obtain ⟨hn,gD,hf,uR,aw,cf,hk8,hW,Lq,hv,np,vN,IL,rO,hD,GC,hv7,vQ⟩:=x
 have Rl:v<10000:=by have:=hv;rw[hk] at this;exact this
 have qT:Kept p h hl:=vN
 have q1:=dg (4≤(k:Int))
 have u2:aI env .rem 208 false true (some (gF (IntKind.u32.wrap (v:Int)))) (some (gF 10000))=some (qo (v%10000)):=by rw[vQ];exact l8 (k:= .u32) (a:=v) (b:=10000) o!
 have u3:aI env .quo 208 false true (some (gF (IntKind.u32.wrap (v:Int)))) (some (gF 10000))=some (qo (v/10000)):=by rw[vQ];exact l7 (k:= .u32) (a:=v) (b:=10000) o! (wrap_u32 o!)
 have u4:=Pd 208 false true (v%10000) 100
 have u5:=zk 208 false true ((v%10000) /100) 2
 have u6:=Pe 208 false true (v%10000) 100
 have u7:=zk 208 false true ((v%10000)%100) 2
 have w8:=fS ((k:Int) - 1)
 have w9:=fS ((k:Int) - 2)
 have BM:=uZ 208 false true (((v%10000)%100)*2) 1
 have Sr:=kd (A:=((v%10000)%100)) o!
 have Ss:=j_ (A:=((v%10000)%100)) o!
 have Ho:bq env (some (.slice 5)) (some (AV.slice p o n c op)) (some (af ((k:Int) - 1)))=some (AV.ptr p (o+(k - 1))):=a8 k! (show (k - 1)<n by omega) o!
 obtain ⟨pP,jc,mF,dS,oZ⟩:=iJ 5 (k - 1) (48+((v%10000)%100)%10) np o! rO (show (k - 1)<D.length by omega)
 obtain ⟨Su,qU⟩:∃q_,q_=D.set (k - 1) (48+((v%10000)%100)%10):=⟨_,rfl⟩
 have fE:=mF.2.1
 rw[←qU] at fE
 have Hp:Su.length=n:=by rw[qU,List.length_set];exact GC
 have fm:Kept p h pP:=qT.trans mF.2.2
 have Sv:bq env (some (.slice 5)) (some (AV.slice p o n c op)) (some (af ((k:Int) - 2)))=some (AV.ptr p (o+(k - 2))):=a8 k! (show (k - 2)<n by omega) o!
 obtain ⟨E0,tM,o_,ij,G4⟩:=iJ 5 (k - 2) (48+((v%10000)%100) /10) dS o! fE (show (k - 2)<Su.length by omega)
 obtain ⟨Sw,qV⟩:∃q_,q_=Su.set (k - 2) (48+((v%10000)%100) /10):=⟨_,rfl⟩
 have mN:=o_.2.1
 rw[←qV] at mN
 have Hq:Sw.length=n:=by rw[qV,List.length_set];exact Hp
 have iE:Kept p h E0:=fm.trans o_.2.2
 have w19:=fS ((k:Int) - 3)
 have V3:=fS ((k:Int) - 4)
 have Zr:=uZ 208 false true (((v%10000) /100)*2) 1
 have Sx:=kd (A:=((v%10000) /100)) o!
 have Sy:=j_ (A:=((v%10000) /100)) o!
 have GR:bq env (some (.slice 5)) (some (AV.slice p o n c op)) (some (af ((k:Int) - 3)))=some (AV.ptr p (o+(k - 3))):=a8 k! (show (k - 3)<n by omega) o!
 obtain ⟨Ub,wZ,qE,qF,Jx⟩:=iJ 5 (k - 3) (48+((v%10000) /100)%10) ij o! mN (show (k - 3)<Sw.length by omega)
 obtain ⟨Sz,qW⟩:∃q_,q_=Sw.set (k - 3) (48+((v%10000) /100)%10):=⟨_,rfl⟩
 have tS:=qE.2.1
 rw[←qW] at tS
 have Hr:Sz.length=n:=by rw[qW,List.length_set];exact Hq
 have o7:Kept p h Ub:=iE.trans qE.2.2
 have SA:bq env (some (.slice 5)) (some (AV.slice p o n c op)) (some (af ((k:Int) - 4)))=some (AV.ptr p (o+(k - 4))):=a8 k! (show (k - 4)<n by omega) o!
 obtain ⟨Qq,Hs,xu,xe,Um⟩:=iJ 5 (k - 4) (48+((v%10000) /100) /10) qF o! tS (show (k - 4)<Sz.length by omega)
 obtain ⟨Qx,qX⟩:∃q_,q_=Sz.set (k - 4) (48+((v%10000) /100) /10):=⟨_,rfl⟩
 have qJ:=xu.2.1
 rw[←qX] at qJ
 have JJ:Qx.length=n:=by rw[qX,List.length_set];exact Hr
 have xf:Kept p h Qq:=o7.trans xu.2.2
 have q30:=cI (2≤((k:Int) - 4))
 have q31:=cI (0<((k:Int) - 4))
 have ev:=pk (d) jf ((AV.slice p o n c op)::(ae u)::aV 165) h .normal Qq (CN 3<|LL cf<|CN 4<|VV (bV 3 false true .i64 (k:Int) 4)<|BB q1<|CC<|VV u2<|CN 2<|VV u3<|CN 2<|VV u4<|VV u5<|CC<|VV u6<|VV u7<|CN 4<|VV (bT 3 false true w8)<|CN 2<|VV (bT 3 false true w9)<|CC<|VV BM<|VV Sr<|CC<|VV Ss<|VV Ho<|SS jc<|VV Sv<|SS tM<|CN 2<|VV (bT 3 false true w19)<|CN 2<|VV (bT 3 false true V3)<|CC<|VV Zr<|VV Sx<|CC<|VV Sy<|VV GR<|SS wZ<|VV SA<|SS Hs<|CC<|VV (bT 3 false true V3)<|CN 2<|VV (bV 3 false true .i64 ((k:Int) - 4) 2)<|BB q30<|CC<|VV (bM 3 false true .i64 ((k:Int) - 4) 0)<|BB q31<|ZZ) k!
 have e:Qx=dW u n:=by
  rw[qX,qW,qV,qU,Lq,hD,zn (k:=(k - 2)) (m:=k) (i:=(k - 1)) (j:=(k - 2)) o! o! o! o!,zn (k:=(k - 4)) (m:=(k - 2)) (i:=(k - 3)) (j:=(k - 4)) o! o! o! o!,hk]
  simp only[dW,List.take_zero,Nat.sub_self,List.nil_append,List.cons_append,List.append_assoc]
  simp only[List.cons.injEq,and_true]
  (repeat' apply And.intro)<;>omega
 rw[e] at qJ
 exact dQ rfl (az Tryz.func96 xq k! (.inl rfl) ev k!) ⟨xe,qJ,xf⟩ aw uR o!
theorem adk (x:FB d h l u p o n c op C f k v hl yl W D) (hk:k=3):FG d h u p o n c op C f:=by
 obtain ⟨hn,gD,hf,uR,aw,cf,hk8,hW,Lq,hv,np,vN,IL,rO,hD,GC,hv7,vQ⟩:=x
 have Rl:v<1000:=by have:=hv;rw[hk] at this;exact this
 have qT:Kept p h hl:=vN
 have q1:=cI (4≤(k:Int))
 have q2:=dg (2≤(k:Int))
 have u3:aI env .rem 208 false true (some (gF (IntKind.u32.wrap (v:Int)))) (some (gF 100))=some (qo (v%100)):=by rw[vQ];exact l8 (k:= .u32) (a:=v) (b:=100) o!
 have u4:=zk 208 false true (v%100) 2
 have u5:aI env .quo 208 false true (some (gF (IntKind.u32.wrap (v:Int)))) (some (gF 100))=some (qo (v/100)):=by rw[vQ];exact l7 (k:= .u32) (a:=v) (b:=100) o! (wrap_u32 o!)
 have w6:=fS ((k:Int) - 1)
 have w7:=fS ((k:Int) - 2)
 have u8:=uZ 208 false true ((v%100)*2) 1
 have ti9:=kd (A:=(v%100)) o!
 have agF:=j_ (A:=(v%100)) o!
 have GP:bq env (some (.slice 5)) (some (AV.slice p o n c op)) (some (af ((k:Int) - 1)))=some (AV.ptr p (o+(k - 1))):=a8 k! (show (k - 1)<n by omega) o!
 obtain ⟨sZ,qN,vt,dH,vr⟩:=iJ 5 (k - 1) (48+(v%100)%10) np o! rO (show (k - 1)<D.length by omega)
 obtain ⟨D13,Hw⟩:∃q_,q_=D.set (k - 1) (48+(v%100)%10):=⟨_,rfl⟩
 have gS:=vt.2.1
 rw[←Hw] at gS
 have aaH:D13.length=n:=by rw[Hw,List.length_set];exact GC
 have dV:Kept p h sZ:=qT.trans vt.2.2
 have Ha:bq env (some (.slice 5)) (some (AV.slice p o n c op)) (some (af ((k:Int) - 2)))=some (AV.ptr p (o+(k - 2))):=a8 k! (show (k - 2)<n by omega) o!
 obtain ⟨vJ,qI,qL,iP,Em⟩:=iJ 5 (k - 2) (48+(v%100) /10) dH o! gS (show (k - 2)<D13.length by omega)
 obtain ⟨D16,Hx⟩:∃q_,q_=D13.set (k - 2) (48+(v%100) /10):=⟨_,rfl⟩
 have jJ:=qL.2.1
 rw[←Hx] at jJ
 have afb:D16.length=n:=by rw[Hx,List.length_set];exact aaH
 have jv:Kept p h vJ:=dV.trans qL.2.2
 have q17:=dg (0<((k:Int) - 2))
 have IF:=uZ 208 true false 48 (v/100)
 have Z':bq env (some (.slice 5)) (some (AV.slice p o n c op)) (some (af 0))=some (AV.ptr p (o+0)):=a8 k! (show 0<n by omega) o!
 obtain ⟨Fq,aaI⟩:∃hh:ah,hh=vJ.put p (some (ar.cells (setFrom C o (aA .u8 (D16.set 0 (48+(v/100))))) f false)):=⟨_,rfl⟩
 have tN:ch env vJ 5 (AV.ptr p (o+0)) (bj (IntKind.u8.wrap ((48+(v/100):Nat):Int)))=some Fq:=by rw[aaI,(wrap_u8 (n:=48+(v/100)) o!)];exact tm k! o! jJ (show 0<D16.length by omega)
 have B4:nj vJ Fq p (ar.cells (setFrom C o (aA .u8 (D16.set 0 (48+(v/100))))) f false):=by rw[aaI];exact il iP jJ
 have mO:=B4.1
 have JC:Fq.nx=vJ.nx:=by rw[aaI];rfl
 obtain ⟨D21,Hm⟩:∃q_,q_=D16.set 0 (48+(v/100)):=⟨_,rfl⟩
 have sq:=B4.2.1
 rw[←Hm] at sq
 have aeX:D21.length=n:=by rw[Hm,List.length_set];exact afb
 have mP:Kept p h Fq:=jv.trans B4.2.2
 have ev:=pk (d) jf ((AV.slice p o n c op)::(ae u)::aV 165) h .normal Fq (CN 3<|LL cf<|CN 4<|VV (bV 3 false true .i64 (k:Int) 4)<|BB q1<|CC<|VV (bV 3 false true .i64 (k:Int) 2)<|BB q2<|CC<|VV u3<|VV u4<|CN 2<|VV u5<|CN 3<|VV (bT 3 false true w6)<|CN 2<|VV (bT 3 false true w7)<|CC<|VV u8<|VV ti9<|CC<|VV agF<|VV GP<|SS qN<|VV Ha<|SS qI<|CC<|VV (bT 3 false true w7)<|CN 2<|VV (bM 3 false true .i64 ((k:Int) - 2) 0)<|BB q17<|CN 2<|VV IF<|CC<|VV Z'<|SS tN<|ZZ) k!
 have e:D21=dW u n:=by
  rw[Hm,Hx,Hw,Lq,hD,zn (k:=(k - 2)) (m:=k) (i:=(k - 1)) (j:=(k - 2)) o! o! o! o!,adf (m:=(k - 2)) o! o!,hk]
  simp only[dW,List.take_zero,Nat.sub_self,List.nil_append,List.cons_append,List.append_assoc]
  simp only[List.cons.injEq,and_true]
  (repeat' apply And.intro)<;>omega
 rw[e] at sq
 exact dQ rfl (az Tryz.func96 xq k! (.inl rfl) ev k!) ⟨mO,sq,mP⟩ aw uR o!
theorem adl (x:FB d h l u p o n c op C f k v hl yl W D) (hk:k=2):FG d h u p o n c op C f:=by
 obtain ⟨hn,gD,hf,uR,aw,cf,hk8,hW,Lq,hv,np,vN,IL,rO,hD,GC,hv7,vQ⟩:=x
 have Rl:v<100:=by have:=hv;rw[hk] at this;exact this
 have qT:Kept p h hl:=vN
 have q1:=cI (4≤(k:Int))
 have q2:=dg (2≤(k:Int))
 have u3:aI env .rem 208 false true (some (gF (IntKind.u32.wrap (v:Int)))) (some (gF 100))=some (qo (v%100)):=by rw[vQ];exact l8 (k:= .u32) (a:=v) (b:=100) o!
 have u4:=zk 208 false true (v%100) 2
 have u5:aI env .quo 208 false true (some (gF (IntKind.u32.wrap (v:Int)))) (some (gF 100))=some (qo (v/100)):=by rw[vQ];exact l7 (k:= .u32) (a:=v) (b:=100) o! (wrap_u32 o!)
 have w6:=fS ((k:Int) - 1)
 have w7:=fS ((k:Int) - 2)
 have u8:=uZ 208 false true ((v%100)*2) 1
 have ti9:=kd (A:=(v%100)) o!
 have agF:=j_ (A:=(v%100)) o!
 have GP:bq env (some (.slice 5)) (some (AV.slice p o n c op)) (some (af ((k:Int) - 1)))=some (AV.ptr p (o+(k - 1))):=a8 k! (show (k - 1)<n by omega) o!
 obtain ⟨sZ,qN,vt,dH,vr⟩:=iJ 5 (k - 1) (48+(v%100)%10) np o! rO (show (k - 1)<D.length by omega)
 obtain ⟨D13,Hw⟩:∃q_,q_=D.set (k - 1) (48+(v%100)%10):=⟨_,rfl⟩
 have gS:=vt.2.1
 rw[←Hw] at gS
 have aaH:D13.length=n:=by rw[Hw,List.length_set];exact GC
 have dV:Kept p h sZ:=qT.trans vt.2.2
 have Ha:bq env (some (.slice 5)) (some (AV.slice p o n c op)) (some (af ((k:Int) - 2)))=some (AV.ptr p (o+(k - 2))):=a8 k! (show (k - 2)<n by omega) o!
 obtain ⟨vJ,qI,qL,iP,Em⟩:=iJ 5 (k - 2) (48+(v%100) /10) dH o! gS (show (k - 2)<D13.length by omega)
 obtain ⟨D16,Hx⟩:∃q_,q_=D13.set (k - 2) (48+(v%100) /10):=⟨_,rfl⟩
 have jJ:=qL.2.1
 rw[←Hx] at jJ
 have afb:D16.length=n:=by rw[Hx,List.length_set];exact aaH
 have jv:Kept p h vJ:=dV.trans qL.2.2
 have q17:=cI (0<((k:Int) - 2))
 have ev:=pk (d) jf ((AV.slice p o n c op)::(ae u)::aV 165) h .normal vJ (CN 3<|LL cf<|CN 4<|VV (bV 3 false true .i64 (k:Int) 4)<|BB q1<|CC<|VV (bV 3 false true .i64 (k:Int) 2)<|BB q2<|CC<|VV u3<|VV u4<|CN 2<|VV u5<|CN 3<|VV (bT 3 false true w6)<|CN 2<|VV (bT 3 false true w7)<|CC<|VV u8<|VV ti9<|CC<|VV agF<|VV GP<|SS qN<|VV Ha<|SS qI<|CC<|VV (bT 3 false true w7)<|CN 2<|VV (bM 3 false true .i64 ((k:Int) - 2) 0)<|BB q17<|ZZ) k!
 have e:D16=dW u n:=by
  rw[Hx,Hw,Lq,hD,zn (k:=(k - 2)) (m:=k) (i:=(k - 1)) (j:=(k - 2)) o! o! o! o!,hk]
  simp only[dW,List.take_zero,Nat.sub_self,List.nil_append,List.cons_append,List.append_assoc]
  simp only[List.cons.injEq,and_true]
  (repeat' apply And.intro)<;>omega
 rw[e] at jJ
 exact dQ rfl (az Tryz.func96 xq k! (.inl rfl) ev k!) ⟨iP,jJ,jv⟩ aw uR o!
theorem adm (x:FB d h l u p o n c op C f k v hl yl W D) (hk:k=1):FG d h u p o n c op C f:=by
 obtain ⟨hn,gD,hf,uR,aw,cf,hk8,hW,Lq,hv,np,vN,IL,rO,hD,GC,hv7,vQ⟩:=x
 have Rl:v<10:=by have:=hv;rw[hk] at this;exact this
 have qT:Kept p h hl:=vN
 have q1:=cI (4≤(k:Int))
 have q2:=cI (2≤(k:Int))
 have q3:=dg (0<(k:Int))
 have u4:aI env .add 208 true false (some (gF 48)) (some (gF (IntKind.u32.wrap (v:Int))))=some (qo (48+v)):=by rw[vQ];exact JH (k:= .u32) (a:=48) (b:=v) (wrap_u32 o!)
 have Lg:bq env (some (.slice 5)) (some (AV.slice p o n c op)) (some (af 0))=some (AV.ptr p (o+0)):=a8 k! (show 0<n by omega) o!
 obtain ⟨h6,agG⟩:∃hh:ah,hh=hl.put p (some (ar.cells (setFrom C o (aA .u8 (D.set 0 (48+v)))) f false)):=⟨_,rfl⟩
 have AD:ch env hl 5 (AV.ptr p (o+0)) (bj (IntKind.u8.wrap ((48+v:Nat):Int)))=some h6:=by rw[agG,(wrap_u8 (n:=48+v) o!)];exact tm k! o! rO (show 0<D.length by omega)
 have G0:nj hl h6 p (ar.cells (setFrom C o (aA .u8 (D.set 0 (48+v)))) f false):=by rw[agG];exact il np rO
 have dh:=G0.1
 have wP:h6.nx=hl.nx:=by rw[agG];rfl
 obtain ⟨D7,agH⟩:∃q_,q_=D.set 0 (48+v):=⟨_,rfl⟩
 have j9:=G0.2.1
 rw[←agH] at j9
 have anl:D7.length=n:=by rw[agH,List.length_set];exact GC
 have dK:Kept p h h6:=qT.trans G0.2.2
 have ev:=pk (d) jf ((AV.slice p o n c op)::(ae u)::aV 165) h .normal h6 (CN 3<|LL cf<|CN 4<|VV (bV 3 false true .i64 (k:Int) 4)<|BB q1<|CC<|VV (bV 3 false true .i64 (k:Int) 2)<|BB q2<|CC<|VV (bM 3 false true .i64 (k:Int) 0)<|BB q3<|CN 2<|VV u4<|CC<|VV Lg<|SS AD<|ZZ) k!
 have e:D7=dW u n:=by
  rw[agH,Lq,hD,adf (m:=k) o! o!,hk]
  simp only[dW,List.take_zero,Nat.sub_self,List.nil_append,List.cons_append,List.append_assoc]
  simp only[List.cons.injEq,and_true]
  (repeat' apply And.intro)<;>omega
 rw[e] at j9
 exact dQ rfl (az Tryz.func96 xq k! (.inl rfl) ev k!) ⟨dh,j9,dK⟩ aw uR o!
theorem adn (x:FB d h l u p o n c op C f k v hl yl W D) (hk:k=0):FG d h u p o n c op C f:=by
 obtain ⟨hn,gD,hf,uR,aw,cf,hk8,hW,Lq,hv,np,vN,IL,rO,hD,GC,hv7,vQ⟩:=x
 have Rl:v<1:=by have:=hv;rw[hk] at this;exact this
 have q1:=cI (4≤(k:Int))
 have q2:=cI (2≤(k:Int))
 have q3:=cI (0<(k:Int))
 have ev:=pk (d) jf ((AV.slice p o n c op)::(ae u)::aV 165) h .normal hl (CN 3<|LL cf<|CN 4<|VV (bV 3 false true .i64 (k:Int) 4)<|BB q1<|CC<|VV (bV 3 false true .i64 (k:Int) 2)<|BB q2<|CC<|VV (bM 3 false true .i64 (k:Int) 0)<|BB q3<|ZZ) k!
 have e:D=dW u n:=by
  rw[Lq,hD,hk]
  simp only[dW,List.take_zero,Nat.sub_self,List.nil_append,List.cons_append,List.append_assoc]
 rw[e] at rO
 exact dQ rfl (az Tryz.func96 xq k! (.inl rfl) ev k!) ⟨np,rO,vN⟩ aw uR o!
end
theorem SB {d:Nat} {h:ah} {l:List Nat} {u p o n c:Nat} {op:Bool} {C:List AV} {f:TypeId} (hn:l.length=n) (gD:n<2^60) (hf:o+n≤C.length) (hC:Holds .u8 C o l) (uR:h.get p=some (.cells C f false)) (hu:u<10^n) (E3:u<18446744073709551616) (aw:Tidy h):
 ∃hk,aQ (d+1) (.fn 96) [.slice p o n c op,.int .u64 (u:Nat)] h= .ret (.tuple []) hk∧nj h hk p (.cells (setFrom C o (aA .u8 (dW u n))) f false)∧hk.nx=h.nx:=by
 have hg:h.get p=some (.cells (setFrom C o (aA .u8 (l.take n++[]))) f false):=by
  rw[List.append_nil,List.take_of_length_le o!,KP hC];exact uR
 obtain ⟨⟨k,v⟩,hl,⟨yl,cf⟩,hk8,W,hW,Lq,hv,np,vN,IL,rO⟩:=V' (d:=d) (hs:=h) (ds:=[]) (rc:= .no) (c:=c) (op:=op) (U:=u) hn gD hf n n u h [] o! (by simp) (by simp) hu E3 aw (Kept.refl _ _) rfl hg (fun k=>(((AV.slice p o n c op)::(ae u)::aB::aB::(ag n)::KR 12 ((AV.slice p o n c op)::(ag n)::aV 148)):List AV).getD k aB)
 simp only at hk8 hW Lq hv cf rO
 obtain ⟨D,hD⟩:∃D,D=l.take k++W:=⟨_,rfl⟩
 rw[←hD] at rO
 have GC:D.length=n:=by rw[hD];simp;omega
 have hv7:v<10000000:=Nat.lt_of_lt_of_le hv (Nat.pow_le_pow_right o! (show k≤7 by omega))
 have vQ:IntKind.u32.wrap (v:Int)=(v:Int):=wrap_u32 o!
 have fb:FB d h l u p o n c op C f k v hl yl W D:=⟨hn,gD,hf,uR,aw,cf,by omega,by omega,Lq,hv,np,vN,IL,rO,hD,GC,hv7,vQ⟩
 have:k=7∨k=6∨k=5∨k=4∨k=3∨k=2∨k=1∨k=0:=by omega
 rcases this with q | q | q | q | q | q | q | q
 · exact adg fb q
 · exact adh fb q
 · exact adi fb q
 · exact adj fb q
 · exact adk fb q
 · exact adl fb q
 · exact adm fb q
 · exact adn fb q
noncomputable def xy:Code:=(Tryz.f136.body).getD .skip
theorem Pm:Tryz.f136.body=some xy:=by kernel_rfl
noncomputable def AO:Code:=(Tryz.f137.body).getD .skip
theorem Ut:Tryz.f137.body=some AO:=by kernel_rfl
noncomputable def xz:Code:=(Tryz.f95.body).getD .skip
theorem Pn:Tryz.f95.body=some xz:=by kernel_rfl
noncomputable def xA:Code:=(Tryz.f94.body).getD .skip
theorem Po:Tryz.f94.body=some xA:=by kernel_rfl
noncomputable def nK:Code:=(Tryz.f133.body).getD .skip
theorem zV:Tryz.f133.body=some nK:=by kernel_rfl
noncomputable def vu:Code:=(Tryz.f87.body).getD .skip
theorem Lr:Tryz.f87.body=some vu:=by kernel_rfl
theorem Wa {t:TypeId} {c d:Bool} {j:IntKind} {a s:Nat} {x y:Int} (hx:x=(a:Int)) (hy:y=(s:Int)∧s≤64):aI env .shr t c d (some (.int .i64 x)) (some (.int j y))=some (.int .i64 ((a/2^s:Nat):Int)):=by
 obtain ⟨rfl,hs⟩:=hy
 subst hx
 have h1:min s 64=s:=by omega
 have h2:((a:Int).fdiv (2^s))=((a/2^s:Nat):Int):=by
  rw[Int.fdiv_eq_ediv_of_nonneg _ (Int.pow_nonneg (by decide))]
  norm_cast
 simp only[aI,pX,Int.toNat_natCast]
 rw[if_neg o!]
 show some (af ((a:Int).fdiv (2^(min s 64))))=_
 rw[h1,h2]
theorem Uu {N:Nat} {e:TypeId} {i z:Nat} (hs:bK env e=some 1) (hz:z<N):bq env (some (.array N e)) (some (.ptr i 0)) (some (.int .i64 (z:Nat)))=some (.ptr i z):=by
 simp only[bq,hs]
 rw[if_pos ⟨by omega,by omega⟩,Int.toNat_natCast,Nat.zero_add,Nat.mul_one]
theorem pR {t e:TypeId} {p N lo hi w c:Nat} {low high:Option AV} (ht:env.P.underlying t=some (.array N e)) (hs:bK env e=some 1) (hl:low=some (.int .i64 (lo:Nat))∨low=none∧lo=0) (hh:high=some (.int .i64 (hi:Nat))∨high=none∧hi=N) (h1:lo≤hi∧hi≤N) (h3:lo<N) (hw:w=hi - lo) (hc:c=N - lo):
 aZ env t (.ptr p 0) low high none=some (.slice p lo w c false):=by
 subst hw hc
 simp only[aZ,ht,hs,iv (len:=N) (cap:=N) low high hl hh h1.1 h1.2]
 rw[if_neg o!,Nat.zero_add,Nat.mul_one]
def vv (l:List Nat):List UInt8:=l.map UInt8.ofNat
noncomputable def IM (h:ah) (i o n:Nat):Option AV:=match E6 h i o n with
 | some l=>some (.str l)
 | none=>none
theorem JK {F:AV→Option UInt8} (hF:∀x:Nat,F (.int .u8 (x:Int))=some (UInt8.ofNat x)):∀(l:List Nat),fv F (aA .u8 l)=some (vv l)
 | []=>rfl
 | x::l=>by
  have:=JK hF l
  simp only[aA,List.map_cons,fv] at this ⊢
  rw[this,hF]
  rfl
theorem B9 {h:ah} {p o n:Nat} {R:List Nat} {f:TypeId} {ro:Bool} (hg:h.get p=some (.cells (aA .u8 R) f ro)) (hn:o+n≤R.length):IM h p o n=some (.str (vv ((R.drop o).take n))):=by
 have e:((aA .u8 R).drop o).take n=aA .u8 ((R.drop o).take n):=by simp [aA,List.map_take,List.map_drop]
 simp only[IM,E6,hg]
 rw[if_pos (by rw[aM];exact hn),e,JK (fun x=>by simp) _]
def eg (u:Nat):Nat:=if h:u<10 then 1 else eg (u/10)+1
termination_by u
decreasing_by omega
theorem jK {u:Nat} (h:u<10):eg u=1:=by rw[eg,dif_pos h]
theorem yF {u:Nat} (h:¬u<10):eg u=eg (u/10)+1:=by rw[eg,dif_neg h]
theorem l9:∀(n u:Nat),10^n≤u→u<10^(n+1)→eg u=n+1
 | 0,u,_,h=>jK (by simpa using h)
 | n+1,u,h1,h2=>by
  have h0:1≤10^n:=Nat.pow_pos (by decide)
  rw[Nat.pow_succ] at h1
  rw[yF o!,l9 n (u/10) o! (by rw[Nat.pow_succ] at h2;omega)]
theorem eM:∀(u:Nat),u≠0→1≤eg u∧10^(eg u - 1)≤u∧u<10^eg u:=by
 intro u
 induction u using Nat.strongRecOn with
 | _ u ih=>
  intro hu
  by_cases q:u<10
  · rw[jK q];simp;omega
  · obtain ⟨h1,h2,h3⟩:=ih (u/10) o! o!
    rw[yF q]
    refine ⟨by omega,?_,?_⟩
    · rw[show eg (u/10)+1 - 1=eg (u/10) - 1+1 by omega,Nat.pow_succ];omega
    · rw[Nat.pow_succ];omega
def bf (u:Nat):List UInt8:=vv (dW u (eg u))
theorem Pp:∀(n u x:Nat),x∈dW u n→x<256
 | n+1,u,x,h=>by
  rcases List.mem_append.1 h with h | h
  · exact Pp n _ x h
  · rw[List.mem_singleton.1 h];omega
def pb:List Nat:=[1,10,100,1000,10000,100000,1000000,10000000,100000000,1000000000,10000000000,100000000000,1000000000000,10000000000000,100000000000000,1000000000000000,10000000000000000,100000000000000000,1000000000000000000,10000000000000000000]
theorem aaJ:∀T<20,pb.getD T 0=10^T:=by decide+kernel
theorem agI:∀L<65,0<L→L*78913/2^18<20∧(L*78913/2^18=0∨10^(L*78913/2^18 - 1)≤2^(L - 1))∧2^L≤10^(L*78913/2^18+1):=by decide+kernel
theorem Pq {d:Nat} {h:ah} {x:Nat} (hx:x≤64):aQ (d+1) (.fn 136) [.int .i64 (x:Nat)] h= .ret (.int .i64 ((x*78913/2^18:Nat):Int)) h:=by
 have w1:=fS ((x:Int)*78913)
 have u2:aI env .shr 3 false true (some (af ((x:Int)*78913))) (some (aa 18))=some (ag ((x*78913) /2^18)):=Wa (a:=(x*78913)) o! o!
 have ev:=pk (d) xy ((ag x)::aV 5) h .ret h (CN 2<|VV (Iy 3 false true w1)<|VV u2<|CC<|ZZ) k!
 exact ai rfl (az Tryz.func136 Pm k! (.inr rfl) ev k!) (Has.refl _) rfl
theorem ado {d:Nat} {h:ah} {b:Bool}:aQ (d+1) (.fn 137) [.bool b] h= .ret (.int .i64 (if b then 1 else 0)) h:=by
 cases b with
 | true=>
  have ev:=pk (d) AO ((aj true)::aV 3) h .ret h (CN 2<|TT<|CC<|ZZ) k!
  exact ai rfl (az Tryz.func137 Ut k! (.inr rfl) ev k!) (Has.refl _) rfl
 | false=>
  have ev:=pk (d) AO ((aj false)::aV 3) h .ret h (CN 2<|FF<|CC<|ZZ) k!
  exact ai rfl (az Tryz.func137 Ut k! (.inr rfl) ev k!) (Has.refl _) rfl
theorem xB {d:Nat} {h:ah} {u:Nat} {f:TypeId} {ro:Bool} (Qy:u≠0) (E3:u<18446744073709551616) (hG:h.get 1=some (.cells (aA .u64 pb) f ro)):
 aQ (d+2) (.fn 95) [.int .u64 (u:Nat)] h= .ret (.int .i64 (eg u:Nat)) h:=by
 obtain ⟨L,kL,bL,hL⟩:=K_ (d:=d) (h:=h) u E3
 obtain ⟨hLp,hL1,hL2⟩:0<L∧2^(L - 1)≤u∧u<2^L:=by
  rcases bL with ⟨h1,_⟩ | h1
  · exact absurd h1 Qy
  · exact h1
 obtain ⟨t1,t2,t3⟩:=agI L o! hLp
 have kT:=Pq (d:=d) (h:=h) hL
 obtain ⟨T,hT⟩:∃T,T=L*78913/2^18:=⟨_,rfl⟩
 rw[←hT] at t1 t2 t3 kT
 obtain ⟨P,hP⟩:∃P,P=10^T:=⟨_,rfl⟩
 have kP:=tj (E:=env) (t:=54) (i:=T) k! hG (show T<20 from t1)
 rw[aaJ T t1,←hP] at kP
 obtain ⟨B2,hB2⟩:∃B2:Nat,B2=if P≤u then 1 else 0:=⟨_,rfl⟩
 have hB1:B2≤1:=by rw[hB2];split<;>omega
 have kB:aQ (d+1) (.fn 137) [.bool (decide ((P:Int)≤(u:Int)))] h= .ret (.int .i64 (B2:Int)) h:=by
  rw[ado,hB2]
  by_cases q:P≤u
  · rw[if_pos q,decide_eq_true o!];rfl
  · rw[if_neg q,decide_eq_false o!];rfl
 have ix1:bq env (some (.array 20 54)) (some (AV.ptr 1 0)) (some (ag T))=some (AV.ptr 1 T):=Uu k! o!
 have w2:=fS ((T:Int)+(B2:Int))
 have ev:=pk (d+1) xz ((ae u)::aV 14) h .ret h (CN 2<|EE kL<|EE kT<|CN 4<|VV ix1<|MM kP<|VV (bV 54 false false .u64 (u:Int) (P:Int))<|EE kB<|VV (iI 3 false false w2)<|CC<|ZZ) k!
 have e:(T:Int)+(B2:Int)=((eg u:Nat):Int):=by
  by_cases q:P≤u
  · rw[if_pos q] at hB2
    rw[l9 T u (by rw[←hP];exact q) (Nat.lt_of_lt_of_le hL2 t3)]
    omega
  · rw[if_neg q] at hB2
    have hT0:T≠0:=fun e0=>by rw[e0] at hP;simp at hP;omega
    rcases t2 with t2 | t2
    · exact absurd t2 hT0
    · rw[l9 (T - 1) u (Nat.le_trans t2 hL1) (by rw[show T - 1+1=T by omega,←hP];omega)]
      omega
 rw[←e]
 exact ai rfl (az Tryz.func95 Pn k! (.inr rfl) ev k!) (Has.refl _) rfl
theorem Pr {d:Nat} {h:ah} {u:Nat} (hu:u<100):aQ (d+1) (.fn 94) [.int .i64 (u:Nat)] h= .ret (.str (bf u)) h:=by
 by_cases q:u<10
 · have q1:=dg ((u:Int)<10)
   have w2:=fS ((u:Int)+1)
   have sl3:aZ env 9 (AV.str [48,49,50,51,52,53,54,55,56,57,97,98,99,100,101,102,103,104,105,106,107,108,109,110,111,112,113,114,115,116,117,118,119,120,121,122]) (some (ag u)) (some (af ((u:Int)+1))) (none)=some (AV.str (List.take ((u+1) - u) (List.drop u ([48,49,50,51,52,53,54,55,56,57,97,98,99,100,101,102,103,104,105,106,107,108,109,110,111,112,113,114,115,116,117,118,119,120,121,122])))):=Jl k! o! o! o! (by first | omega | (simp;omega))
   have ev:=pk (d) xA ((ag u)::aV 14) h .ret h (CN 2<|VV (bh 3 false true .i64 (u:Int) 10)<|BB q1<|CN 2<|VV (iI 3 false true w2)<|QQ sl3<|CC<|ZZ) k!
   have t:∀u<10,List.take ((u+1) - u) (List.drop u ([48,49,50,51,52,53,54,55,56,57,97,98,99,100,101,102,103,104,105,106,107,108,109,110,111,112,113,114,115,116,117,118,119,120,121,122]))=vv (dW u 1):=by decide+kernel
   have e:bf u=List.take ((u+1) - u) (List.drop u ([48,49,50,51,52,53,54,55,56,57,97,98,99,100,101,102,103,104,105,106,107,108,109,110,111,112,113,114,115,116,117,118,119,120,121,122])):=by rw[bf,jK q,t u q]
   rw[e]
   exact ai rfl (az Tryz.func94 Po k! (.inr rfl) ev k!) (Has.refl _) rfl
 · have q1:=cI ((u:Int)<10)
   have w2:=fS ((u:Int)*2)
   have w3:=fS (((u:Int)*2)+2)
   have sl4:aZ env 9 (AV.str [48,48,48,49,48,50,48,51,48,52,48,53,48,54,48,55,48,56,48,57,49,48,49,49,49,50,49,51,49,52,49,53,49,54,49,55,49,56,49,57,50,48,50,49,50,50,50,51,50,52,50,53,50,54,50,55,50,56,50,57,51,48,51,49,51,50,51,51,51,52,51,53,51,54,51,55,51,56,51,57,52,48,52,49,52,50,52,51,52,52,52,53,52,54,52,55,52,56,52,57,53,48,53,49,53,50,53,51,53,52,53,53,53,54,53,55,53,56,53,57,54,48,54,49,54,50,54,51,54,52,54,53,54,54,54,55,54,56,54,57,55,48,55,49,55,50,55,51,55,52,55,53,55,54,55,55,55,56,55,57,56,48,56,49,56,50,56,51,56,52,56,53,56,54,56,55,56,56,56,57,57,48,57,49,57,50,57,51,57,52,57,53,57,54,57,55,57,56,57,57]) (some (af ((u:Int)*2))) (some (af (((u:Int)*2)+2))) (none)=some (AV.str (List.take ((u*2+2) -(u*2)) (List.drop (u*2) ([48,48,48,49,48,50,48,51,48,52,48,53,48,54,48,55,48,56,48,57,49,48,49,49,49,50,49,51,49,52,49,53,49,54,49,55,49,56,49,57,50,48,50,49,50,50,50,51,50,52,50,53,50,54,50,55,50,56,50,57,51,48,51,49,51,50,51,51,51,52,51,53,51,54,51,55,51,56,51,57,52,48,52,49,52,50,52,51,52,52,52,53,52,54,52,55,52,56,52,57,53,48,53,49,53,50,53,51,53,52,53,53,53,54,53,55,53,56,53,57,54,48,54,49,54,50,54,51,54,52,54,53,54,54,54,55,54,56,54,57,55,48,55,49,55,50,55,51,55,52,55,53,55,54,55,55,55,56,55,57,56,48,56,49,56,50,56,51,56,52,56,53,56,54,56,55,56,56,56,57,57,48,57,49,57,50,57,51,57,52,57,53,57,54,57,55,57,56,57,57])))):=Jl k! o! o! o! (by first | omega | (simp;omega))
   have ev:=pk (d) xA ((ag u)::aV 14) h .ret h (CN 2<|VV (bh 3 false true .i64 (u:Int) 10)<|BB q1<|CC<|VV (Iy 3 false true w2)<|CC<|VV (Iy 3 false true w2)<|VV (iI 3 false true w3)<|QQ sl4<|CC<|ZZ) k!
   have t:∀u<100,¬u<10→List.take ((u*2+2) -(u*2)) (List.drop (u*2) ([48,48,48,49,48,50,48,51,48,52,48,53,48,54,48,55,48,56,48,57,49,48,49,49,49,50,49,51,49,52,49,53,49,54,49,55,49,56,49,57,50,48,50,49,50,50,50,51,50,52,50,53,50,54,50,55,50,56,50,57,51,48,51,49,51,50,51,51,51,52,51,53,51,54,51,55,51,56,51,57,52,48,52,49,52,50,52,51,52,52,52,53,52,54,52,55,52,56,52,57,53,48,53,49,53,50,53,51,53,52,53,53,53,54,53,55,53,56,53,57,54,48,54,49,54,50,54,51,54,52,54,53,54,54,54,55,54,56,54,57,55,48,55,49,55,50,55,51,55,52,55,53,55,54,55,55,55,56,55,57,56,48,56,49,56,50,56,51,56,52,56,53,56,54,56,55,56,56,56,57,57,48,57,49,57,50,57,51,57,52,57,53,57,54,57,55,57,56,57,57]))=vv (dW u 2):=by decide+kernel
   have e:bf u=List.take ((u*2+2) -(u*2)) (List.drop (u*2) ([48,48,48,49,48,50,48,51,48,52,48,53,48,54,48,55,48,56,48,57,49,48,49,49,49,50,49,51,49,52,49,53,49,54,49,55,49,56,49,57,50,48,50,49,50,50,50,51,50,52,50,53,50,54,50,55,50,56,50,57,51,48,51,49,51,50,51,51,51,52,51,53,51,54,51,55,51,56,51,57,52,48,52,49,52,50,52,51,52,52,52,53,52,54,52,55,52,56,52,57,53,48,53,49,53,50,53,51,53,52,53,53,53,54,53,55,53,56,53,57,54,48,54,49,54,50,54,51,54,52,54,53,54,54,54,55,54,56,54,57,55,48,55,49,55,50,55,51,55,52,55,53,55,54,55,55,55,56,55,57,56,48,56,49,56,50,56,51,56,52,56,53,56,54,56,55,56,56,56,57,57,48,57,49,57,50,57,51,57,52,57,53,57,54,57,55,57,56,57,57])):=by rw[bf,yF q,jK o!,t u hu q]
   rw[e]
   exact ai rfl (az Tryz.func94 Po k! (.inr rfl) ev k!) (Has.refl _) rfl
theorem Wb {n:Nat} (hn:n≤24):Holds .u8 (aA .u8 (List.replicate 24 0)) 0 (List.replicate n 0):=fun i z hz=>by
 rw[Nat.zero_add]
 rw[List.getElem?_replicate] at hz
 split at hz
 · cases hz
   exact dP (by rw[List.getElem?_replicate,if_pos o!])
 · cases hz
theorem aaK {n:Nat} {D:List Nat} (hn:n≤24) (hD:D.length=n):setFrom (aA .u8 (List.replicate 24 0)) 0 (aA .u8 D)=aA .u8 (D++List.replicate (24 - n) 0):=by
 rw[mC (by rw[List.length_replicate];omega),List.take_zero,List.nil_append,Nat.zero_add,hD,List.drop_replicate]
theorem adp {h:ah} {p n u:Nat} {f:TypeId} {ro:Bool} (hn:n=eg u) (h24:n≤24) (hg:h.get p=some (.cells (aA .u8 (dW u n++List.replicate (24 - n) 0)) f ro)):IM h p 0 n=some (.str (bf u)):=by
 have e:((dW u n++List.replicate (24 - n) 0).drop 0).take n=dW u n:=by
  rw[List.drop_zero,List.take_append_of_le_length (by rw[fF];omega),List.take_of_length_le (by rw[fF];omega)]
 have:=B9 (o:=0) (n:=n) hg (by simp [fF])
 rw[e] at this
 rw[this,bf,←hn]
theorem IN {d:Nat} {h:ah} {u:Nat} {f:TypeId} {ro:Bool} (E3:u<18446744073709551616) (hG:h.get 1=some (.cells (aA .u64 pb) f ro)) (aw:Tidy h):
 aQ (d+4) (.fn 133) [.int .u64 (u:Nat),.int .i64 10] h= .ret (.str (bf u)) h:=by
 by_cases hu:u<100
 · have q1:=dg ((u:Int)<100)
   have ev:=pk (d+3) nK ((ae u)::(af 10)::aV 30) h .ret h (CN 3<|TT<|CC<|VV (bh 54 false true .u64 (u:Int) 100)<|BB q1<|CN 2<|EE (show (aQ (d+3)) (.fn 94) [(af (IntKind.i64.wrap (u:Int)))] h= .ret (AV.str (bf u)) h from (by rw[wrap_i64 o! o!];exact Pr (d:=d+2) hu))<|CC<|ZZ) k!
   exact ai rfl (az Tryz.func133 zV k! (.inr rfl) ev k!) (Has.refl _) rfl
 · have Qy:u≠0:=by omega
   obtain ⟨n,hn⟩:∃n,n=eg u:=⟨_,rfl⟩
   obtain ⟨n1,n2,A5⟩:=eM u Qy
   rw[←hn] at n1 n2 A5
   have agJ:n≤24:=by
    have:10^(n - 1)<10^20:=Nat.lt_of_le_of_lt n2 (Nat.lt_trans E3 (by decide))
    have:=(Nat.pow_lt_pow_iff_right (by decide:1<10)).1 this
    omega
   have q1:=cI ((u:Int)<100)
   obtain ⟨h2,bD,bP,iA,bB,b8⟩:=de aw (ar.cells [(bj 0),(bj 0),(bj 0),(bj 0),(bj 0),(bj 0),(bj 0),(bj 0),(bj 0),(bj 0),(bj 0),(bj 0),(bj 0),(bj 0),(bj 0),(bj 0),(bj 0),(bj 0),(bj 0),(bj 0),(bj 0),(bj 0),(bj 0),(bj 0)] 152 false)
   have b7:Has h h2:=b8
   have aaL:h2.get h.nx=some (ar.cells (aA .u8 (List.replicate 24 0)) 152 false):=bB
   have sl3:aZ env 152 (AV.ptr h.nx 0) (none) (some (ag n)) (none)=some (AV.slice h.nx 0 n 24 false):=pR (e:=5) (N:=24) (lo:=0) (hi:=n) k! k! (.inr ⟨rfl,rfl⟩) (.inl (by rw[show ((n:Int):Int)=(n:Int) by omega])) o! o! o! o!
   obtain ⟨h4,RW,AB,wL⟩:=SB (d:=d+2) (l:=List.replicate n 0) (u:=u) (p:=h.nx) (o:=0) (n:=n) (c:=24) (op:=false) (C:=aA .u8 (List.replicate 24 0)) (f:=152) (by simp) o! (by rw[aM,List.length_replicate];omega) (Wb agJ) aaL A5 E3 bP
   have gk:=AB.1
   have afc:=AB.2.1
   rw[aaK agJ (fF _ _)] at afc
   have iy:Has h h4:=AB.has b7 aw o!
   have V8:aZ env 152 (AV.ptr h.nx 0) (none) (some (ag n)) (none)=some (AV.slice h.nx 0 n 24 false):=pR (e:=5) (N:=24) (lo:=0) (hi:=n) k! k! (.inr ⟨rfl,rfl⟩) (.inl (by rw[show ((n:Int):Int)=(n:Int) by omega])) o! o! o! o!
   have cv6:IM h4 h.nx 0 n=some (AV.str (bf u)):=adp hn agJ afc
   have ev:=pk (d+3) nK ((ae u)::(af 10)::aV 30) h .ret h4 (CN 3<|TT<|CC<|VV (bh 54 false true .u64 (u:Int) 100)<|BB q1<|NN bD (fun i=>(AV.ptr i 0))<|CC<|EE (show (aQ (d+3)) (.fn 95) [(ae u)] h2= .ret (ag n) h2 from (by rw[hn];exact xB (d:=d+1) Qy E3 (b7 _ _ hG)))<|CN 2<|QQ sl3<|CC<|EE RW<|CC<|QQ V8<|MM cv6<|CC<|ZZ) k!
   exact ai rfl (az Tryz.func133 zV k! (.inr rfl) ev k!) iy rfl
theorem pK {d:Nat} {h:ah} {u:Nat} {f:TypeId} {ro:Bool} (E3:u<18446744073709551616) (hG:h.get 1=some (.cells (aA .u64 pb) f ro)) (aw:Tidy h):
 aQ (d+5) (.fn 87) [.int .u64 (u:Nat),.int .i64 10] h= .ret (.str (bf u)) h:=by
 have ev:=pk (d+4) vu ((ae u)::(af 10)::aV 6) h .ret h (CN 3<|EE (show (aQ (d+4)) (.fn 133) [(ae u),(af 10)] h= .ret (AV.str (bf u)) h from IN (d:=d) E3 hG aw)<|CC<|ZZ) k!
 exact ai rfl (az Tryz.func87 Lr k! (.inr rfl) ev k!) (Has.refl _) rfl
end Go.Proofs.aF
