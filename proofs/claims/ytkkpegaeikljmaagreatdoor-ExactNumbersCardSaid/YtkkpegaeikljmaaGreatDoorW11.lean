import Derived.Test.YtkkpegaeikljmaaGreatDoorA6
import Derived.Test.YtkkpegaeikljmaaGreatDoorW0
import Derived.Test.YtkkpegaeikljmaaGreatDoorEnv
import Derived.Test.YtkkpegaeikljmaaGreatDoorW10
import Derived.Test.YtkkpegaeikljmaaGreatDoorW7
import Derived.Test.YtkkpegaeikljmaaGreatDoorW4
namespace Go.Proofs.aF
open Go.Proofs Ab
set_option maxRecDepth 100000
set_option maxHeartbeats 4000000
set_option linter.unusedVariables false
set_option linter.unusedSimpArgs false
def mm (h:ah) (z:AV):Prop:=∀p,p<h.nx→mj p z
theorem mm.slice {h:ah} {p o n c:Nat} {b:Bool} (hp:h.nx≤p):mm h (.slice p o n c b):=fun q hq o' n' c' b' e=>by cases e;omega
theorem mm.nil {h:ah}:mm h .ax:=fun q hq o' n' c' b' e=>by cases e
theorem mm.mono {h0 h:ah} {z:AV} (n:mm h z) (hle:h0.nx≤h.nx):mm h0 z:=fun p hp=>n p o!
theorem mm.sub {h:ah} {a z:AV} (n:mm h a) (s:∀p,mj p a→mj p z):mm h z:=fun p hp=>s p (n p hp)
abbrev SW (h:ah) (z:AV) (l:List Nat):Prop:=ao env h .i64 3 z l
theorem SW.back {h h':ah} {z:AV} {l:List Nat} (nz:SW h' z l) (nw:mm h z) (v:AV.within h.nx 20 z=true):SW h z l:=by
 rcases nz.known with rfl | ⟨p,o,n,c,b,rfl,_⟩
 · have h1:=nz.len
   rw[nZ] at h1
   simp only[Option.some.injEq,AV.int.injEq,true_and] at h1
   rw[List.length_eq_zero_iff.1 (show l.length=0 by omega)]
   exact ao.nil k! k!
 · have:=of_decide_eq_true (show decide (p<h.nx)=true from v)
   exact absurd rfl (nw p this o n c b)
theorem HA {d:Nat} {f:FuncId} {args:List AV} {h h':ah} {z:AV} {l:List Nat} (hm:M0 f args h=none) (hd:mz env (aQ d) f args h z h') (y:Tidy h) (g:Grow h h') (nz:SW h' z l) (nw:mm h z):∃hk,aQ (d+1) (.fn f) args h= .ret z hk∧Grow h hk∧SW hk z l:=
 aU hm hd y g (P:=fun hh=>SW hh z l) nz fun v=>SW.back nz nw v
theorem SW.own {h:ah} {p:Nat} {l:List Nat} {op:Bool} {e:TypeId} {ro:Bool} (hg:h.get p=some (.cells (aA .i64 l) e ro)) (hl:l.length<2^60) (rH:op=true→0<l.length):SW h (.slice p 0 l.length l.length op) l:=
 ao.of k! k! hl (Nat.le_refl _) rH hg fun i z hz=>by rw[Nat.zero_add];exact dP hz
noncomputable def xF:Code:=(Tryz.f29.body).getD .skip
theorem aaU:Tryz.f29.body=some xF:=by kernel_rfl
noncomputable def AT:Code:=(aY xF).getD 0 .skip
theorem Ew {d:Nat} {h:ah} {z:AV} {n:Nat} (hn:n<2^30):∀(k i P:Nat),i+k=n%9→P=10^i→∀x:Nat→AV,
 ∃y:Nat→AV,Ev env (aQ d) (.loop AT) ⟨((ag n)::(x 1)::(x 2)::z::(ag P)::(ag i)::rx x 6 15 []),h,[],.no⟩ (.exit 0) ⟨(rx y 0 3 (z::(ag (10^(n%9)))::rx y 5 16 [])),h,[],.no⟩
 | 0,i,P,hi,hP,x=>by
  have e:P=10^(n%9):=by rw[hP];congr 1
  have u1:=VG 3 false true n 9 o!
  have q2:=cI ((i:Int)<((n%9:Nat):Int))
  have ev:=pk (d) AT ((ag n)::(x 1)::(x 2)::z::(ag P)::(ag i)::rx x 6 15 []) h (.exit 0) h (CN 2<|VV u1<|VV (bh 3 false false .i64 (i:Int) ((n%9:Nat):Int))<|BB q2<|ZZ) k!
  rw[←e]
  exact cT (Ev.out ev) k!
 | k+1,i,P,hi,hP,x=>by
  have hb:P≤10^8:=by rw[hP];exact Nat.pow_le_pow_right (by decide) o!
  have u1:=VG 3 false true n 9 o!
  have q2:=dg ((i:Int)<((n%9:Nat):Int))
  have u3:=YB 3 false true P 10 o!
  have u4:=fX 3 false true i 1 o!
  have ev:=pk (d) AT ((ag n)::(x 1)::(x 2)::z::(ag P)::(ag i)::rx x 6 15 []) h .normal h (CN 2<|VV u1<|VV (bh 3 false false .i64 (i:Int) ((n%9:Nat):Int))<|BB q2<|CC<|VV u3<|CN 2<|VV u4<|CC<|ZZ) k!
  exact bO ev k! fun x=>Ew hn k (i+1) (P*10) o! (by rw[hP,Nat.pow_succ]) x
theorem JO (n:Nat):List.replicate (n/9) 0++[10^(n%9)]=nW (10^n):=by
 have h9:10^(n%9)<1000000000:=Nat.lt_of_le_of_lt (show _≤10^8 from Nat.pow_le_pow_right (by decide) o!) (by decide)
 have hp:10^(n%9)≠0:=Nat.pos_iff_ne_zero.1 (Nat.pow_pos (by decide))
 have w:bS (List.replicate (n/9) 0++[10^(n%9)]):=(bS.rep _).append (bS.one h9)
 rw[←Py w (.inr (by simp [List.getD_eq_getElem?_getD]))]
 congr 1
 rw[JN,Hz,Nat.zero_add,List.length_replicate]
 conv=>rhs;rw[←Nat.div_add_mod n 9,Nat.pow_add,Nat.pow_mul]
theorem PA {d:Nat} {h:ah} {n:Nat} (hn:n<2^30) (aw:Tidy h):∃z hk,aQ (d+1) (.fn 29) [.int .i64 (n:Nat)] h= .ret z hk∧Grow h hk∧SW hk z (nW (10^n))∧mm h z:=by
 obtain ⟨Q,hQ⟩:∃Q,Q=10^(n%9):=⟨_,rfl⟩
 have u1:=Gr 3 false true n 9 o! o!
 have mk2:qm env (some (.slice 3)) (some (ag (n/9))) (some (ag (n/9)))=some (ar.cells (aS [(af 0)] (n/9)) 3 false,fun i=>AV.slice i 0 (n/9) (n/9) false):=gH (bytes:=8) (z:=(af 0)) k! k! k! rfl (by decide) o!
 obtain ⟨h3,gn,bt,ky,eb,bC⟩:=de aw (ar.cells (aS [(af 0)] (n/9)) 3 false)
 have aX:Has h h3:=bC
 have ajk:=eb
 rw[c_] at eb
 obtain ⟨yl,cf⟩:=Ew (d:=d) (h:=h3) (z:=AV.slice h.nx 0 (n/9) (n/9) false) hn (n%9) 0 1 o! rfl (fun k_=>(((ag n)::aB::bE::(AV.slice h.nx 0 (n/9) (n/9) false)::(af 1)::(af 0)::(ag n)::(ag (n/9))::(AV.slice h.nx 0 (n/9) (n/9) false)::aV 12):List AV).getD k_ aB)
 rw[←hQ] at cf
 obtain ⟨h4,sS,gk,wL,jH,sU⟩:=de bt (ar.cells [(ag Q)] 3 false)
 have iy:=aX.trans sU
 have gw:=jH
 obtain ⟨h5,Y8,fA,wM,pD,lu⟩:=uJ (k:= .i64) (op:=false) gk (tys:= #[30,30]) rfl rfl k! k! k! (bytes:=8) k! (z:=AV.int .i64 0) k! rfl (by decide) (fi (op:=false) gw) (n:=n/9) (by simp) (by simp) (by simp;omega) (sU _ _ eb)
 have ep:Has h h5:=(Has.ak iy pD aw o!)
 have ev:=pk (d) xF ((ag n)::aV 20) h .ret h5 (CN 2<|VV u1<|KK mk2 gn<|CN 3<|LL cf<|CN 2<|NN sS (fun i=>(AV.slice i 0 1 1 false))<|PP Y8<|CC<|ZZ) k!
 rw[hQ,JO] at lu
 have hl:n/9+1=(nW (10^n)).length:=by rw[←JO];simp
 have nz:SW h5 (AV.slice h4.nx 0 (n/9+1) (n/9+1) true) (nW (10^n)):=by
  have:=SW.own (op:=true) lu o! (fun _=>by omega)
  rw[←hl] at this
  exact this
 have nw:mm h (AV.slice h4.nx 0 (n/9+1) (n/9+1) true):=mm.slice o!
 obtain ⟨hk,k1,k2,k3⟩:=HA rfl (az Tryz.func29 aaU k! (.inr rfl) ev k!) aw ⟨fA,ep,by omega⟩ nz nw
 exact ⟨_,hk,k1,k2,k3,nw⟩
noncomputable def sv:Code:=(Tryz.f91.body).getD .skip
theorem aaV:Tryz.f91.body=some sv:=by kernel_rfl
noncomputable def AU:Code:=(aY sv).getD 0 .skip
noncomputable def vd:Code:=(aY sv).getD 1 .skip
theorem SW.T2 {h:ah} {p n:Nat} {l:List Nat} {op:Bool} {e:TypeId} {ro:Bool} (hg:h.get p=some (.cells (aA .i64 l) e ro)) (hn:l.length=n) (hl:n<2^60) (rH:op=false:=by rfl):SW h (.slice p 0 n n op) l:=by
 subst hn
 exact SW.own hg hl fun e=>by rw[rH] at e;cases e
theorem HB {D:List Nat} {j ca q n V:Nat} (hj:j<D.length) (hv:bN D+ca*1000000000^j=V) (hn:n=D.getD j 0+ca+q):bN (D.set j (n%1000000000))+n/1000000000*1000000000^(j+1)=V+q*1000000000^j:=by
 have h1:=Px (v:=n%1000000000) hj
 have h2:(1000000000*(n/1000000000)+n%1000000000)*1000000000^j=n*1000000000^j:=by rw[Nat.div_add_mod]
 rw[Nat.add_mul] at h2
 have h3:n*1000000000^j=D.getD j 0*1000000000^j+ca*1000000000^j+q*1000000000^j:=by rw[hn,Nat.add_mul,Nat.add_mul]
 have h4:n/1000000000*1000000000^(j+1)=1000000000*(n/1000000000)*1000000000^j:=by rw[Nat.pow_succ];ac_rfl
 rw[h4]
 omega
theorem ve {d:Nat} {h0:ah} {a b:AV} {la lb D0:List Nat} {p N i:Nat} (y0:Tidy h0) (ha:SW h0 a la) (hb:SW h0 b lb) (wa:bS la) (wb:bS lb) (Ql:i<la.length) (gD:la.length+lb.length<2^28) (hN:N=la.length+lb.length+1) (hp:h0.nx≤p) (hT:bN D0<1000000000^(i+lb.length)):∀(m k ca:Nat) (h:ah) (D:List Nat),k+m=lb.length+1→ca<1000000000→bS D→D.length=N→Tidy h→Has h0 h→p<h.nx→h.get p=some (.cells (aA .i64 D) 3 false)→bN D+ca*1000000000^(i+k)=bN D0+la.getD i 0*bN (lb.take k)*1000000000^i→∀x:Nat→AV,
 ∃(D2:List Nat) (h2:ah),(∃y:Nat→AV,Ev env (aQ (d+1)) (.loop vd) ⟨(a::b::rx x 2 3 ((AV.slice p 0 N N false)::(ag i)::(ag ca)::(ag k)::rx x 9 58 [])),h,[],.no⟩ (.exit 2) ⟨(a::b::rx y 2 3 ((AV.slice p 0 N N false)::(ag i)::rx y 7 60 [])),h2,[],.no⟩)∧Tidy h2∧Has h0 h2∧p<h2.nx∧h2.get p=some (.cells (aA .i64 D2) 3 false)∧bS D2∧D2.length=N∧bN D2=bN D0+la.getD i 0*bN lb*1000000000^i
 | m,k,ca,h,D,hk,CI,w,lD,aw,a0,E9,hg,hv,x=>by
  have hD9:=w.at (i+k)
  by_cases q:k<lb.length
  · obtain ⟨m,rfl⟩:∃j,m=j+1:=⟨m - 1,by omega⟩
    have hm:la.getD i 0*lb.getD k 0≤999999999*999999999:=Nat.mul_le_mul (by have:=wa.at i;omega) (by have:=wb.at k;omega)
    have q1:=dg ((k:Int)<((lb.length:Nat):Int))
    have u2:=fX 3 false false i k o!
    have ix3:bq env (some (.slice 3)) (some (AV.slice p 0 N N false)) (some (ag (i+k)))=some (AV.ptr p (i+k)):=cN k! (show (i+k)<N by omega) o!
    have ld4:bk env h 3 (AV.ptr p (i+k))=some (ag (D.getD (i+k) 0)):=tj k! hg (show (i+k)<D.length by omega)
    have u5:=fX 3 false false (D.getD (i+k) 0) ca o!
    obtain ⟨p6,q7,ix8,ld9⟩:=((ha.has a0)).j8 (i:Int) (show i<la.length by omega)
    obtain ⟨C7,L0,Lm,zf⟩:=((hb.has a0)).j8 (k:Int) (show k<lb.length by omega)
    have u14:=YB 3 false false (la.getD i 0) (lb.getD k 0) o!
    have W1:=fX 3 false false ((D.getD (i+k) 0)+ca) ((la.getD i 0)*(lb.getD k 0)) o!
    have u16:=fX 3 false false i k o!
    have u17:=VG 3 false true (((D.getD (i+k) 0)+ca)+((la.getD i 0)*(lb.getD k 0))) 1000000000 o!
    have Sc:bq env (some (.slice 3)) (some (AV.slice p 0 N N false)) (some (ag (i+k)))=some (AV.ptr p (i+k)):=cN k! (show (i+k)<N by omega) o!
    obtain ⟨Fo,BZ,Jy,tJ,Jz⟩:=Iz 3 (i+k) ((((D.getD (i+k) 0)+ca)+((la.getD i 0)*(lb.getD k 0)))%1000000000) aw hg (show (i+k)<D.length by omega)
    have tK:Kept p h Fo:=Jy.2.2
    have R6:=Gr 3 false true (((D.getD (i+k) 0)+ca)+((la.getD i 0)*(lb.getD k 0))) 1000000000 o! o!
    have Zr:=fX 3 false true k 1 o!
    have ev:=pk (d+1) vd (a::b::rx x 2 3 ((AV.slice p 0 N N false)::(ag i)::(ag ca)::(ag k)::rx x 9 58 [])) h .normal Fo (CN 2<|VV ((hb.has a0)).len<|VV (bh 3 false false .i64 (k:Int) ((lb.length:Nat):Int))<|CC<|BB q1<|BB q1<|VV (aG (a:=some (aj true)) (b:=some aB) q1)<|TT<|CN 3<|VV u2<|VV ix3<|MM ld4<|CC<|VV u5<|CN 3<|VV ((hb.has a0)).len<|VV (bh 3 false false .i64 (k:Int) ((lb.length:Nat):Int))<|BB q1<|CN 3<|VV ix8<|MM ld9<|CN 2<|VV Lm<|MM zf<|VV u14<|VV W1<|CC<|HH ld9<|HH (show AV.same 20 (ag (la.getD i 0)) (ag (la.getD i 0))=true from aP 19 _ _)<|HH zf<|HH (show AV.same 20 (ag (lb.getD k 0)) (ag (lb.getD k 0))=true from aP 19 _ _)<|CN 3<|VV u16<|CC<|VV u17<|VV Sc<|SS BZ<|CC<|VV R6<|CN 2<|VV Zr<|CC<|ZZ) k!
    have g1:=Jy.2.1
    have hv':=HB (q:=la.getD i 0*lb.getD k 0) (show i+k<D.length by omega) hv rfl
    refine bp (tin:=fun x=>(a::b::rx x 2 3 ((AV.slice p 0 N N false)::(ag i)::(ag ((((D.getD (i+k) 0)+ca)+((la.getD i 0)*(lb.getD k 0))) /1000000000))::(ag (k+1))::rx x 9 58 []))) ev k! fun x=>ve y0 ha hb wa wb Ql gD hN hp hT m (k+1) _ Fo _ o! o! (w.set (Nat.mod_lt _ (by decide))) (by rw[List.length_set];exact lD) tJ (Has.ak a0 tK y0 hp) o! g1 ?_ x
    rw[show i+(k+1)=i+k+1 by omega,hv',pS q,Nat.mul_add,Nat.add_mul,Nat.pow_add]
    simp only[Nat.mul_comm,Nat.mul_left_comm,Nat.mul_assoc,Nat.add_assoc]
  · rw[List.take_of_length_le o!] at hv
    by_cases q2:0<ca
    · have gL:bN D0+la.getD i 0*bN lb*1000000000^i<1000000000^(i+lb.length+1):=by
       have h1:la.getD i 0*bN lb*1000000000^i≤999999999*(1000000000^(i+lb.length)):=by
        rw[Nat.pow_add,Nat.mul_comm (1000000000^i),←Nat.mul_assoc]
        exact Nat.mul_le_mul_right _ (Nat.mul_le_mul (by have:=wa.at i;omega) (Nat.le_of_lt (vc wb)))
       rw[Nat.pow_succ]
       omega
      have Q3:k=lb.length:=by
       have h2:1000000000^(i+k)<1000000000^(i+lb.length+1):=by
        refine Nat.lt_of_le_of_lt ?_ gL
        rw[←hv]
        exact Nat.le_trans (Nat.le_mul_of_pos_left _ q2) (Nat.le_add_left _ _)
       have:=(Nat.pow_lt_pow_iff_right (by decide:1<1000000000)).1 h2
       omega
      obtain ⟨m,rfl⟩:∃j,m=j+1:=⟨m - 1,by omega⟩
      have q1:=cI ((k:Int)<((lb.length:Nat):Int))
      have q2:=dg (0<(ca:Int))
      have u3:=fX 3 false false i k o!
      have yX:bq env (some (.slice 3)) (some (AV.slice p 0 N N false)) (some (ag (i+k)))=some (AV.ptr p (i+k)):=cN k! (show (i+k)<N by omega) o!
      have vp:bk env h 3 (AV.ptr p (i+k))=some (ag (D.getD (i+k) 0)):=tj k! hg (show (i+k)<D.length by omega)
      have u6:=fX 3 false false (D.getD (i+k) 0) ca o!
      have u7:=fX 3 false false i k o!
      have u8:=VG 3 false true ((D.getD (i+k) 0)+ca) 1000000000 o!
      have Sb:bq env (some (.slice 3)) (some (AV.slice p 0 N N false)) (some (ag (i+k)))=some (AV.ptr p (i+k)):=cN k! (show (i+k)<N by omega) o!
      obtain ⟨lx,qD,lJ,dE,wU⟩:=Iz 3 (i+k) (((D.getD (i+k) 0)+ca)%1000000000) aw hg (show (i+k)<D.length by omega)
      have dm:Kept p h lx:=lJ.2.2
      have nk:=Gr 3 false true ((D.getD (i+k) 0)+ca) 1000000000 o! o!
      have Oj:=fX 3 false true k 1 o!
      have ev:=pk (d+1) vd (a::b::rx x 2 3 ((AV.slice p 0 N N false)::(ag i)::(ag ca)::(ag k)::rx x 9 58 [])) h .normal lx (CN 2<|VV ((hb.has a0)).len<|VV (bh 3 false false .i64 (k:Int) ((lb.length:Nat):Int))<|CC<|BB q1<|CC<|BB q1<|VV (bM 3 false true .i64 (ca:Int) 0)<|VV (aL (a:=some (aj true)) (b:=some (aj (decide (0<(ca:Int))))) q1)<|BB q2<|CN 3<|VV u3<|VV yX<|MM vp<|CC<|VV u6<|CN 3<|VV ((hb.has a0)).len<|VV (bh 3 false false .i64 (k:Int) ((lb.length:Nat):Int))<|BB q1<|CN 3<|VV u7<|CC<|VV u8<|VV Sb<|SS qD<|CC<|VV nk<|CN 2<|VV Oj<|CC<|ZZ) k!
      have g1:=lJ.2.1
      have hv':=HB (q:=0) (show i+k<D.length by omega) hv rfl
      refine bp (tin:=fun x=>(a::b::rx x 2 3 ((AV.slice p 0 N N false)::(ag i)::(ag (((D.getD (i+k) 0)+ca) /1000000000))::(ag (k+1))::rx x 9 58 []))) ev k! fun x=>ve y0 ha hb wa wb Ql gD hN hp hT m (k+1) _ lx _ o! o! (w.set (Nat.mod_lt _ (by decide))) (by rw[List.length_set];exact lD) dE (Has.ak a0 dm y0 hp) o! g1 ?_ x
      rw[show i+(k+1)=i+k+1 by omega,List.take_of_length_le o!]
      simpa using hv'
    · have hc:ca=0:=by omega
      have q1:=cI ((k:Int)<((lb.length:Nat):Int))
      have q2:=cI (0<(ca:Int))
      have ev:=pk (d+1) vd (a::b::rx x 2 3 ((AV.slice p 0 N N false)::(ag i)::(ag ca)::(ag k)::rx x 9 58 [])) h (.exit 2) h (CN 2<|VV ((hb.has a0)).len<|VV (bh 3 false false .i64 (k:Int) ((lb.length:Nat):Int))<|CC<|BB q1<|CC<|BB q1<|VV (bM 3 false true .i64 (ca:Int) 0)<|VV (aL (a:=some (aj true)) (b:=some (aj (decide (0<(ca:Int))))) q1)<|BB q2<|ZZ) k!
      exact ⟨D,h,cT (Ev.out ev) k!,aw,a0,E9,hg,w,lD,by rw[hc] at hv;simpa using hv⟩
theorem Cd {d:Nat} {h0:ah} {a b:AV} {la lb:List Nat} {p N:Nat} (y0:Tidy h0) (ha:SW h0 a la) (hb:SW h0 b lb) (wa:bS la) (wb:bS lb) (gD:la.length+lb.length<2^28) (hp:h0.nx≤p) (hN:N=la.length+lb.length+1):∀(m i:Nat) (h:ah) (D:List Nat),i+m=la.length→bS D→D.length=N→Tidy h→Has h0 h→p<h.nx→h.get p=some (.cells (aA .i64 D) 3 false)→bN D=bN (la.take i)*bN lb→∀x:Nat→AV,
 ∃(D2:List Nat) (h2:ah),(∃y:Nat→AV,Ev env (aQ (d+1)) (.loop AU) ⟨(a::b::rx x 2 3 ((AV.slice p 0 N N false)::(ag i)::rx x 7 60 [])),h,[],.no⟩ (.exit 0) ⟨(rx y 0 5 ((AV.slice p 0 N N false)::rx y 6 61 [])),h2,[],.no⟩)∧Tidy h2∧Has h0 h2∧p<h2.nx∧h2.get p=some (.cells (aA .i64 D2) 3 false)∧bS D2∧D2.length=N∧bN D2=bN la*bN lb
 | 0,i,h,D,hi,w,lD,aw,a0,E9,hg,hv,x=>by
  rw[List.take_of_length_le o!] at hv
  have q1:=cI ((i:Int)<((la.length:Nat):Int))
  have ev:=pk (d+1) AU (a::b::rx x 2 3 ((AV.slice p 0 N N false)::(ag i)::rx x 7 60 [])) h (.exit 0) h (CN 2<|VV ((ha.has a0)).len<|VV (bh 3 false false .i64 (i:Int) ((la.length:Nat):Int))<|BB q1<|ZZ) k!
  exact ⟨D,h,cT (Ev.out ev) k!,aw,a0,E9,hg,w,lD,hv⟩
 | m+1,i,h,D,hi,w,lD,aw,a0,E9,hg,hv,x=>by
  have Ql:i<la.length:=by omega
  have hT:bN D<1000000000^(i+lb.length):=by
   rw[hv,Nat.pow_add]
   have h1:=vc (wa.take i)
   rw[List.length_take,Nat.min_eq_left o!] at h1
   exact Nat.mul_lt_mul_of_lt_of_le h1 (Nat.le_of_lt (vc wb)) (Nat.pow_pos (by decide))
  have q1:=dg ((i:Int)<((la.length:Nat):Int))
  obtain ⟨D2,hi,⟨yl,cf⟩,Lz,b0,al4,SG,w2,l2,v2⟩:=ve (d:=d) (h0:=h0) (i:=i) (D0:=D) y0 ha hb wa wb Ql gD hN hp hT (lb.length+1) 0 0 h D o! (by decide) w lD aw a0 E9 hg (by simp [bN]) (fun k_=>((a::b::rx x 2 3 ((AV.slice p 0 N N false)::(ag i)::(af 0)::(af 0)::rx x 9 8 ((ag i)::a::(ag la.length)::(aj (decide ((i:Int)<((la.length:Nat):Int))))::rx x 21 46 []))):List AV).getD k_ aB)
  have u2:=fX 3 false true i 1 o!
  have ev:=pk (d+1) AU (a::b::rx x 2 3 ((AV.slice p 0 N N false)::(ag i)::rx x 7 60 [])) h .normal hi (CN 2<|VV ((ha.has a0)).len<|VV (bh 3 false false .i64 (i:Int) ((la.length:Nat):Int))<|BB q1<|CN 2<|LL cf<|CC<|VV u2<|CC<|ZZ) k!
  refine bp (tin:=fun x=>(a::b::rx x 2 3 ((AV.slice p 0 N N false)::(ag (i+1))::rx x 7 60 []))) ev k! fun x=>Cd y0 ha hb wa wb gD hp hN m (i+1) hi D2 o! w2 l2 Lz b0 al4 SG ?_ x
  rw[v2,hv,pS Ql,Nat.add_mul]
  congr 1
  ac_rfl
theorem xG {d:Nat} {h:ah} {a b:AV} {la lb:List Nat} (ha:SW h a la) (hb:SW h b lb) (wa:bS la) (wb:bS lb) (gD:la.length+lb.length<2^28) (aw:Tidy h):∃z hk,aQ (d+2) (.fn 91) [a,b] h= .ret z hk∧Grow h hk∧SW hk z (nW (bN la*bN lb))∧mm h z:=by
 have u1:=fX 3 false false la.length lb.length o!
 have u2:=fX 3 false true (la.length+lb.length) 1 o!
 have YU:qm env (some (.slice 3)) (some (ag ((la.length+lb.length)+1))) (some (ag ((la.length+lb.length)+1)))=some (ar.cells (aS [(af 0)] ((la.length+lb.length)+1)) 3 false,fun i=>AV.slice i 0 ((la.length+lb.length)+1) ((la.length+lb.length)+1) false):=gH (bytes:=8) (z:=(af 0)) k! k! k! rfl (by decide) o!
 obtain ⟨h4,sS,gk,wL,jH,sU⟩:=de aw (ar.cells (aS [(af 0)] ((la.length+lb.length)+1)) 3 false)
 have iy:Has h h4:=sU
 have ZF:=jH
 rw[c_] at jH
 have ajl:h4.get h.nx=some (.cells (aA .i64 (List.replicate (la.length+lb.length+1) 0)) 3 false):=jH
 obtain ⟨D2,hl,⟨yl,cf⟩,np,qT,SD,SG,w2,l2,v2⟩:=Cd (d:=d) (h0:=h) (p:=h.nx) (N:=(la.length+lb.length+1)) aw ha hb wa wb gD (Nat.le_refl _) rfl la.length 0 h4 _ o! (bS.rep _) (by simp) gk iy o! ajl (by rw[Hz];simp [bN]) (fun k_=>((a::b::aB::aB::bE::(AV.slice h.nx 0 ((la.length+lb.length)+1) ((la.length+lb.length)+1) false)::(af 0)::aB::aB::aB::a::(ag la.length)::b::(ag lb.length)::(ag (la.length+lb.length))::(ag ((la.length+lb.length)+1))::(AV.slice h.nx 0 ((la.length+lb.length)+1) ((la.length+lb.length)+1) false)::aV 50):List AV).getD k_ aB)
 obtain ⟨r,kr,nr,LZ⟩:=mR (d:=d) (h:=hl) (a:=(AV.slice h.nx 0 ((la.length+lb.length)+1) ((la.length+lb.length)+1) false)) (SW.T2 SG o! o!) o!
 have ev:=pk (d+1) sv (a::b::aV 65) h .ret hl (CN 2<|VV (ha).len<|CC<|VV (hb).len<|VV u1<|VV u2<|KK YU sS<|CN 2<|LL cf<|CC<|EE kr<|CC<|ZZ) k!
 rw[tX w2,v2] at nr
 have nw:mm h r:=mm.sub (mm.slice (Nat.le_refl _)) LZ
 obtain ⟨hk,k1,k2,k3⟩:=HA rfl (az Tryz.func91 aaV k! (.inr rfl) ev k!) aw ⟨np,qT,by omega⟩ nr nw
 exact ⟨r,hk,k1,k2,k3,nw⟩
noncomputable def sw:Code:=(Tryz.f92.body).getD .skip
theorem aaW:Tryz.f92.body=some sw:=by kernel_rfl
noncomputable def AW:Code:=(aY sw).getD 0 .skip
noncomputable def vf:Code:=(aY sw).getD 1 .skip
def zs (l:List Int):List AV:=l.map (AV.int .i64)
def zof (l:List Nat):List Int:=l.map fun (n:Nat)=>(n:Int)
def rh:List Int→Int
 | []=>0
 | a::l=>a+1000000000*rh l
theorem agN (l:List Int):(zs l).length=l.length:=by simp [zs]
theorem Uz (l:List Nat):aA .i64 l=zs (zof l):=by simp [aA,zs,zof]
theorem adw (l:List Nat):(zof l).length=l.length:=by simp [zof]
theorem adx (l:List Nat) (j:Nat):(zof l).getD j 0=((l.getD j 0:Nat):Int):=by
 simp only[zof,List.getD_eq_getElem?_getD,List.getElem?_map]
 cases l[j]? <;>rfl
theorem UA:∀(l:List Nat),rh (zof l)=((bN l:Nat):Int)
 | []=>rfl
 | a::l=>by
  have:=UA l
  show (a:Int)+1000000000*rh (zof l)=_
  rw[this,bN];omega
theorem al5 {l:List Int} {k:Nat} (h:k<l.length):l[k]? =some (l.getD k 0):=by simp [List.getD_eq_getElem?_getD,List.getElem?_eq_getElem h]
theorem Ce {h:ah} {t e:TypeId} {p i:Nat} {l:List Int} {ro:Bool} (ht:iS env t=some false) (hg:h.get p=some (.cells (zs l) e ro)) (hi:i<l.length):bk env h t (.ptr p i)=some (.int .i64 (l.getD i 0)):=by
 simp only[bk,hg,jX,ht]
 simp only[zs,List.getElem?_map,al5 hi];rfl
theorem HC {h:ah} {t e:TypeId} {p i:Nat} {v:Int} {l:List Int} (hs:bK env t=some 1) (hg:h.get p=some (.cells (zs l) e false)) (hi:i<l.length):ch env h t (.ptr p i) (.int .i64 v)=some (h.put p (some (.cells (zs (l.set i v)) e false))):=by
 simp only[ch,hg,hs]
 rw[if_pos ⟨rfl,by rw[agN];omega,rfl⟩]
 have:setFrom (zs l) i (af v).cells=zs (l.set i v):=by
  show (zs l).set i _=_
  simp [zs,List.map_set]
 rw[this]
theorem Cf {v:Int}:∀{l:List Int} {i:Nat},i<l.length→rh (l.set i v)=rh l+(v - l.getD i 0)*1000000000^i
 | a::l,0,_=>by simp [rh];omega
 | a::l,i+1,h=>by
  have:=Cf (v:=v) (l:=l) (i:=i) (by simpa using h)
  rw[List.set_cons_succ,rh,rh,this,List.getD_cons_succ,Int.pow_succ,Int.mul_add,←Int.mul_assoc _ _ (1000000000:Int),Int.mul_comm ((v - l.getD i 0)*1000000000^i) 1000000000]
  omega
theorem PB (l m:List Int):rh (l++m)=rh l+1000000000^l.length*rh m:=by
 induction l with
 | nil=>simp [rh]
 | cons a l ih=>rw[List.cons_append,rh,ih,rh,List.length_cons,Int.pow_succ,Int.mul_add,Int.mul_comm (1000000000^l.length) 1000000000,Int.mul_assoc];omega
theorem ri (D:List Int) (i j:Nat) (v:Int) (hi:i<D.length):(D.set i v).getD j 0=if j=i then v else D.getD j 0:=by
 rw[List.getD_eq_getElem?_getD,List.getElem?_set]
 by_cases q:i=j
 · subst q;simp [hi]
 · rw[if_neg q,if_neg (Ne.symm q),←List.getD_eq_getElem?_getD]
theorem PC {D:List Int} (b:∀x∈D,0≤x∧x<1000000000):((bN (D.map Int.toNat):Nat):Int)=rh D∧bS (D.map Int.toNat):=by
 induction D with
 | nil=>exact ⟨rfl,bS.nil⟩
 | cons a l ih=>
  have h1:=b a (List.mem_cons_self ..)
  obtain ⟨h2,h3⟩:=ih fun x hx=>b x (List.mem_cons_of_mem _ hx)
  refine ⟨?_,bS.cons o! h3⟩
  rw[List.map_cons,bN,rh,←h2];omega
theorem Ex {D:List Int} {P:Int→Prop} (b:∀j,j<D.length→P (D.getD j 0)):∀x∈D,P x:=fun x hx=>by
 obtain ⟨j,hj,rfl⟩:=List.mem_iff_getElem.1 hx
 have:=b j hj
 rwa [List.getD_eq_getElem?_getD,List.getElem?_eq_getElem hj] at this
theorem agO {D:List Int} (b:∀x∈D,0≤x∧x<1000000000):zs D=aA .i64 (D.map Int.toNat):=by
 rw[Uz]
 congr 1
 rw[zof,List.map_map]
 conv=>lhs;rw[←List.map_id D]
 exact List.map_congr_left fun x hx=>by have:=b x hx;simp;omega
theorem aaX {D:List Int} {i:Nat} (hi:i+1=D.length) (b:∀j,j<i→0≤D.getD j 0∧D.getD j 0<1000000000) (hV:0≤rh D):0≤D.getD i 0:=by
 have e:D=D.take i++[D.getD i 0]:=by
  conv=>lhs;rw[←List.take_append_drop i D]
  congr 1
  rw[List.drop_eq_getElem_cons o!,List.drop_of_length_le o!,List.getD_eq_getElem?_getD,List.getElem?_eq_getElem o!];rfl
 rw[e,PB] at hV
 have hl:(D.take i).length=i:=by rw[List.length_take];omega
 obtain ⟨h1,h2⟩:=PC (D:=D.take i) (Ex fun j hj=>by
  rw[List.getD_eq_getElem?_getD,List.getElem?_take_of_lt o!,←List.getD_eq_getElem?_getD]
  exact b j o!)
 have h3:=vc h2
 rw[List.length_map,hl] at h3
 rw[hl,←h1] at hV
 apply Int.not_lt.1
 intro hn
 have h4:(1000000000:Int)^i*rh [D.getD i 0]≤(1000000000:Int)^i*(-1):=Int.mul_le_mul_of_nonneg_left (by rw[show rh [D.getD i 0]=D.getD i 0+1000000000*0 from rfl];omega) (Int.pow_nonneg (by decide))
 have h5:((1000000000^i:Nat):Int)=(1000000000:Int)^i:=by rw[Int.natCast_pow];rfl
 omega
theorem Cg {d:Nat} {h0:ah} {b:AV} {la lb:List Nat} {p N:Nat} (y0:Tidy h0) (hb:SW h0 b lb) (wa:bS la) (wb:bS lb) (hlen:lb.length≤la.length) (gD:la.length<2^28) (hp:h0.nx≤p) (hN:N=la.length):∀(m i:Nat) (h:ah) (D:List Int),i+m=lb.length→D.length=N→Tidy h→Has h0 h→p<h.nx→h.get p=some (.cells (zs D) 3 false)→(∀j,i≤j→D.getD j 0=((la.getD j 0:Nat):Int))→(∀j,j<i→-999999999≤D.getD j 0∧D.getD j 0≤999999999)→rh D=((bN la:Nat):Int) -((bN (lb.take i):Nat):Int)→∀x:Nat→AV,
 ∃(D2:List Int) (h2:ah),(∃y:Nat→AV,Ev env (aQ (d+1)) (.loop AW) ⟨((x 0)::b::rx x 2 3 ((AV.slice p 0 N N true)::(ag i)::rx x 7 45 [])),h,[],.no⟩ (.exit 0) ⟨(rx y 0 5 ((AV.slice p 0 N N true)::rx y 6 46 [])),h2,[],.no⟩)∧Tidy h2∧Has h0 h2∧p<h2.nx∧h2.get p=some (.cells (zs D2) 3 false)∧D2.length=N∧(∀j,-999999999≤D2.getD j 0∧D2.getD j 0≤999999999)∧rh D2=((bN la:Nat):Int) -((bN lb:Nat):Int)
 | 0,i,h,D,hi,lD,aw,a0,E9,hg,c1,c2,hv,x=>by
  rw[List.take_of_length_le o!] at hv
  have c3:∀j,-999999999≤D.getD j 0∧D.getD j 0≤999999999:=fun j=>by
   by_cases q:j<i
   · exact c2 j q
   · rw[c1 j o!];have:=wa.at j;omega
  have q1:=cI ((i:Int)<((lb.length:Nat):Int))
  have ev:=pk (d+1) AW ((x 0)::b::rx x 2 3 ((AV.slice p 0 N N true)::(ag i)::rx x 7 45 [])) h (.exit 0) h (CN 2<|VV ((hb.has a0)).len<|VV (bh 3 false false .i64 (i:Int) ((lb.length:Nat):Int))<|BB q1<|ZZ) k!
  exact ⟨D,h,cT (Ev.out ev) k!,aw,a0,E9,hg,lD,c3,hv⟩
 | m+1,i,h,D,hi,lD,aw,a0,E9,hg,c1,c2,hv,x=>by
  have Ql:i<lb.length:=by omega
  have f1:=c1 i (Nat.le_refl _)
  have f2:=wa.at i
  have f3:=wb.at i
  have q1:=dg ((i:Int)<((lb.length:Nat):Int))
  have ix2:bq env (some (.slice 3)) (some (AV.slice p 0 N N true)) (some (ag i))=some (AV.ptr p i):=cN k! (show i<N by (first | omega | (simp only[List.length_set];omega))) o!
  have ld3:bk env h 3 (AV.ptr p i)=some (af (D.getD i 0)):=Ce k! hg (show i<D.length by (first | omega | (simp only[List.length_set];omega)))
  obtain ⟨p4,q5,R5,T'⟩:=((hb.has a0)).j8 (i:Int) (show i<lb.length by (first | omega | (simp only[List.length_set];omega)))
  have w8:=fS ((D.getD i 0) -((lb.getD i 0:Nat):Int))
  have Sb:bq env (some (.slice 3)) (some (AV.slice p 0 N N true)) (some (ag i))=some (AV.ptr p i):=cN k! (show i<N by (first | omega | (simp only[List.length_set];omega))) o!
  obtain ⟨lx,Hd⟩:∃hh:ah,hh=h.put p (some (ar.cells (zs (D.set i ((D.getD i 0) -((lb.getD i 0:Nat):Int)))) 3 false)):=⟨_,rfl⟩
  have qD:ch env h 3 (AV.ptr p i) (af ((D.getD i 0) -((lb.getD i 0:Nat):Int)))=some lx:=by rw[Hd];exact HC k! hg (show i<D.length by (first | omega | (simp only[List.length_set];omega)))
  have lJ:nj h lx p (ar.cells (zs (D.set i ((D.getD i 0) -((lb.getD i 0:Nat):Int)))) 3 false):=by rw[Hd];exact il aw hg
  have dE:=lJ.1
  have wU:lx.nx=h.nx:=by rw[Hd];rfl
  have dm:Kept p h lx:=lJ.2.2
  have nk:=fX 3 false true i 1 o!
  have ev:=pk (d+1) AW ((x 0)::b::rx x 2 3 ((AV.slice p 0 N N true)::(ag i)::rx x 7 45 [])) h .normal lx (CN 2<|VV ((hb.has a0)).len<|VV (bh 3 false false .i64 (i:Int) ((lb.length:Nat):Int))<|BB q1<|CN 2<|VV ix2<|MM ld3<|CN 2<|VV R5<|MM T'<|VV (bT 3 false false w8)<|VV Sb<|SS qD<|HH ld3<|HH (show AV.same 20 (af (D.getD i 0)) (af (D.getD i 0))=true from aP 19 _ _)<|HH T'<|HH (show AV.same 20 (ag (lb.getD i 0)) (ag (lb.getD i 0))=true from aP 19 _ _)<|CC<|VV nk<|CC<|ZZ) k!
  have g1:=lJ.2.1
  have sL:=ri D i
  refine bp (tin:=fun x=>((x 0)::b::rx x 2 3 ((AV.slice p 0 N N true)::(ag (i+1))::rx x 7 45 []))) ev k! fun x=>Cg y0 hb wa wb hlen gD hp hN m (i+1) lx _ o! (by rw[List.length_set];exact lD) dE (Has.ak a0 dm y0 hp) o! g1 (fun j hj=>?_) (fun j hj=>?_) ?_ x
  · rw[sL j _ o!,if_neg o!];exact c1 j o!
  · rw[sL j _ o!]
    split
    · omega
    · exact c2 j o!
  · rw[Cf o!,hv,pS Ql]
    have:((1000000000^i*lb.getD i 0:Nat):Int)=((lb.getD i 0:Nat):Int)*1000000000^i:=by rw[Int.mul_comm,Int.natCast_mul,Int.natCast_pow];rfl
    rw[show D.getD i 0 -((lb.getD i 0:Nat):Int) - D.getD i 0= -((lb.getD i 0:Nat):Int) by omega,Int.neg_mul]
    omega
theorem vg {d:Nat} {h0:ah} {p N:Nat} (y0:Tidy h0) (gD:N<2^28) (hp:h0.nx≤p) {V:Int} (hV:0≤V):∀(m i:Nat) (h:ah) (D:List Int),i+m=N→D.length=N→Tidy h→Has h0 h→p<h.nx→h.get p=some (.cells (zs D) 3 false)→(∀j,j<i→0≤D.getD j 0∧D.getD j 0<1000000000)→(-1000000000≤D.getD i 0∧D.getD i 0≤999999999)→(∀j,i<j→-999999999≤D.getD j 0∧D.getD j 0≤999999999)→rh D=V→∀x:Nat→AV,
 ∃(D2:List Int) (h2:ah),(∃y:Nat→AV,Ev env (aQ (d+1)) (.loop vf) ⟨(rx x 0 5 ((AV.slice p 0 N N true)::(x 6)::(ag i)::rx x 8 44 [])),h,[],.no⟩ (.exit 2) ⟨(rx y 0 5 ((AV.slice p 0 N N true)::rx y 6 46 [])),h2,[],.no⟩)∧Tidy h2∧Has h0 h2∧p<h2.nx∧h2.get p=some (.cells (zs D2) 3 false)∧D2.length=N∧(∀x∈D2,0≤x∧x<1000000000)∧rh D2=V
 | 0,i,h,D,hi,lD,aw,a0,E9,hg,c1,c2,c3,hv,x=>by
  have q1:=cI ((i:Int)<(N:Int))
  have ev:=pk (d+1) vf (rx x 0 5 ((AV.slice p 0 N N true)::(x 6)::(ag i)::rx x 8 44 [])) h (.exit 2) h (CN 3<|VV (bh 3 false false .i64 (i:Int) (N:Int))<|BB q1<|ZZ) k!
  exact ⟨D,h,cT (Ev.out ev) k!,aw,a0,E9,hg,lD,Ex fun j hj=>c1 j o!,hv⟩
 | m+1,i,h,D,hi,lD,aw,a0,E9,hg,c1,c2,c3,hv,x=>by
  have f3:=c3 (i+1) o!
  by_cases q:D.getD i 0<0
  · have GO:i+1<D.length:=by
     apply Nat.lt_of_not_le
     intro hle
     have:=aaX (D:=D) (i:=i) o! c1 o!
     omega
    have e1:(D.set i ((D.getD i 0)+1000000000)).getD (i+1) 0=D.getD (i+1) 0:=by rw[ri D i _ _ o!,if_neg o!]
    have q1:=dg ((i:Int)<(N:Int))
    have ix2:bq env (some (.slice 3)) (some (AV.slice p 0 N N true)) (some (ag i))=some (AV.ptr p i):=cN k! (show i<N by (first | omega | (simp only[List.length_set];omega))) o!
    have ld3:bk env h 3 (AV.ptr p i)=some (af (D.getD i 0)):=Ce k! hg (show i<D.length by (first | omega | (simp only[List.length_set];omega)))
    have q4:=dg ((D.getD i 0)<0)
    have Lg:bq env (some (.slice 3)) (some (AV.slice p 0 N N true)) (some (ag i))=some (AV.ptr p i):=cN k! (show i<N by (first | omega | (simp only[List.length_set];omega))) o!
    have Sh:bk env h 3 (AV.ptr p i)=some (af (D.getD i 0)):=Ce k! hg (show i<D.length by (first | omega | (simp only[List.length_set];omega)))
    have w7:=fS ((D.getD i 0)+1000000000)
    have ix8:bq env (some (.slice 3)) (some (AV.slice p 0 N N true)) (some (ag i))=some (AV.ptr p i):=cN k! (show i<N by (first | omega | (simp only[List.length_set];omega))) o!
    obtain ⟨h9,Sl⟩:∃hh:ah,hh=h.put p (some (ar.cells (zs (D.set i ((D.getD i 0)+1000000000))) 3 false)):=⟨_,rfl⟩
    have Sg:ch env h 3 (AV.ptr p i) (af ((D.getD i 0)+1000000000))=some h9:=by rw[Sl];exact HC k! hg (show i<D.length by (first | omega | (simp only[List.length_set];omega)))
    have uT:nj h h9 p (ar.cells (zs (D.set i ((D.getD i 0)+1000000000))) 3 false):=by rw[Sl];exact il aw hg
    have gR:=uT.1
    have GY:h9.nx=h.nx:=by rw[Sl];rfl
    have nm:Kept p h h9:=uT.2.2
    have BM:=fX 3 false true i 1 o!
    have GP:bq env (some (.slice 3)) (some (AV.slice p 0 N N true)) (some (ag (i+1)))=some (AV.ptr p (i+1)):=cN k! (show (i+1)<N by (first | omega | (simp only[List.length_set];omega))) o!
    have Lb:bk env h9 3 (AV.ptr p (i+1))=some (af ((D.set i ((D.getD i 0)+1000000000)).getD (i+1) 0)):=Ce k! uT.2.1 (show (i+1)<(D.set i ((D.getD i 0)+1000000000)).length by (first | omega | (simp only[List.length_set];omega)))
    have w13:=fS (((D.set i ((D.getD i 0)+1000000000)).getD (i+1) 0) - 1)
    have Ha:bq env (some (.slice 3)) (some (AV.slice p 0 N N true)) (some (ag (i+1)))=some (AV.ptr p (i+1)):=cN k! (show (i+1)<N by (first | omega | (simp only[List.length_set];omega))) o!
    obtain ⟨vJ,aaY⟩:∃hh:ah,hh=h9.put p (some (ar.cells (zs ((D.set i ((D.getD i 0)+1000000000)).set (i+1) (((D.set i ((D.getD i 0)+1000000000)).getD (i+1) 0) - 1))) 3 false)):=⟨_,rfl⟩
    have qI:ch env h9 3 (AV.ptr p (i+1)) (af (((D.set i ((D.getD i 0)+1000000000)).getD (i+1) 0) - 1))=some vJ:=by rw[aaY];exact HC k! uT.2.1 (show (i+1)<(D.set i ((D.getD i 0)+1000000000)).length by (first | omega | (simp only[List.length_set];omega)))
    have qL:nj h9 vJ p (ar.cells (zs ((D.set i ((D.getD i 0)+1000000000)).set (i+1) (((D.set i ((D.getD i 0)+1000000000)).getD (i+1) 0) - 1))) 3 false):=by rw[aaY];exact il gR uT.2.1
    have iP:=qL.1
    have Em:vJ.nx=h9.nx:=by rw[aaY];rfl
    have jv:Kept p h vJ:=nm.trans qL.2.2
    have u16:=fX 3 false true i 1 o!
    have ev:=pk (d+1) vf (rx x 0 5 ((AV.slice p 0 N N true)::(x 6)::(ag i)::rx x 8 44 [])) h .normal vJ (CN 3<|VV (bh 3 false false .i64 (i:Int) (N:Int))<|BB q1<|CN 2<|VV ix2<|MM ld3<|VV (bh 3 false true .i64 (D.getD i 0) 0)<|BB q4<|CN 2<|VV Lg<|MM Sh<|VV (iI 3 false true w7)<|VV ix8<|SS Sg<|CN 2<|VV BM<|VV GP<|MM Lb<|VV (bT 3 false true w13)<|VV Ha<|SS qI<|CC<|VV u16<|CC<|ZZ) k!
    have g1:=qL.2.1
    have l1:(D.set i ((D.getD i 0)+1000000000)).length=D.length:=by simp
    refine bp (tin:=fun x=>(rx x 0 5 ((AV.slice p 0 N N true)::(x 6)::(ag (i+1))::rx x 8 44 []))) ev k! fun x=>vg y0 gD hp hV m (i+1) vJ _ o! (by simp;exact lD) iP (Has.ak a0 jv y0 hp) o! g1 (fun j hj=>?_) ?_ (fun j hj=>?_) ?_ x
    · rw[ri _ _ _ _ o!,if_neg o!,ri _ _ _ _ o!]
      split
      · omega
      · exact c1 j o!
    · rw[ri _ _ _ _ o!,if_pos rfl];omega
    · rw[ri _ _ _ _ o!,if_neg o!,ri _ _ _ _ o!,if_neg o!]
      exact c3 j o!
    · rw[Cf o!,Cf o!,e1,hv,Int.pow_succ]
      generalize (1000000000:Int)^i=P
      rw[show D.getD i 0+1000000000 - D.getD i 0=1000000000 by omega,show D.getD (i+1) 0 - 1 - D.getD (i+1) 0= -1 by omega]
      omega
  · have q1:=dg ((i:Int)<(N:Int))
    have ix2:bq env (some (.slice 3)) (some (AV.slice p 0 N N true)) (some (ag i))=some (AV.ptr p i):=cN k! (show i<N by (first | omega | (simp only[List.length_set];omega))) o!
    have ld3:bk env h 3 (AV.ptr p i)=some (af (D.getD i 0)):=Ce k! hg (show i<D.length by (first | omega | (simp only[List.length_set];omega)))
    have q4:=cI ((D.getD i 0)<0)
    have u5:=fX 3 false true i 1 o!
    have ev:=pk (d+1) vf (rx x 0 5 ((AV.slice p 0 N N true)::(x 6)::(ag i)::rx x 8 44 [])) h .normal h (CN 3<|VV (bh 3 false false .i64 (i:Int) (N:Int))<|BB q1<|CN 2<|VV ix2<|MM ld3<|VV (bh 3 false true .i64 (D.getD i 0) 0)<|BB q4<|CC<|VV u5<|CC<|ZZ) k!
    refine bp (tin:=fun x=>(rx x 0 5 ((AV.slice p 0 N N true)::(x 6)::(ag (i+1))::rx x 8 44 []))) ev k! fun x=>vg y0 gD hp hV m (i+1) h D o! lD aw a0 E9 hg (fun j hj=>?_) o! (fun j hj=>c3 j o!) hv x
    by_cases e:j=i
    · subst e;omega
    · exact c1 j o!
theorem HD {d:Nat} {h:ah} {a b:AV} {A D:Nat} (ha:SW h a (nW A)) (hb:SW h b (nW D)) (hA:A≠0) (hle:D≤A) (gD:(nW A).length<2^28) (aw:Tidy h):∃z hk,aQ (d+2) (.fn 92) [a,b] h= .ret z hk∧Grow h hk∧SW hk z (nW (A - D))∧mm h z:=by
 have hlen:=dD hle
 have wa:=eS A
 have wb:=eS D
 have va:=jo A
 have vb:=jo D
 have cR:nW A≠ []:=fun e=>hA (nM.1 e)
 generalize nW A=la at *
 generalize nW D=lb at *
 obtain ⟨N,hN⟩:∃N,N=la.length:=⟨_,rfl⟩
 have hN0:0<la.length:=List.length_pos_iff.2 cR
 obtain ⟨h1,afd,UB⟩:=append_nil (k:= .i64) (h:=h) (tys:= #[30,30]) rfl rfl k! k! k! (bytes:=8) k! (z:=AV.int .i64 0) k! rfl (by decide) ha cR o!
 rw[←hN] at afd
 have aK:=bI aw UB
 have bm:=cW UB
 have aC:=bU UB
 rw[Uz] at aC
 obtain ⟨D1,hl,⟨yl,cf⟩,np,qT,SD,XQ,l1,b1,v1⟩:=Cg (d:=d) (h0:=h) (b:=b) (p:=h.nx) (N:=N) aw hb wa wb hlen o! (Nat.le_refl _) hN lb.length 0 h1 _ o! (by rw[adw];exact hN.symm) aK (bu aw UB) o! aC (fun j _=>adx la j) (fun j hj=>absurd hj o!) (by rw[UA];simp [bN]) (fun k_=>((a::b::aB::aB::bE::(AV.slice h.nx 0 N N true)::(af 0)::aB::a::(AV.slice h.nx 0 N N true)::aV 42):List AV).getD k_ aB)
 obtain ⟨D2,hm,⟨ym,ajm⟩,al6,al7,anm,SG,l2,b2,v2⟩:=vg (d:=d) (h0:=h) (p:=h.nx) (N:=N) aw o! (Nat.le_refl _) (V:=((bN la:Nat):Int) -((bN lb:Nat):Int)) o! N 0 hl _ o! l1 np qT SD XQ (fun j hj=>absurd hj o!) (by have:=b1 0;omega) (fun j _=>b1 j) v1 (fun k_=>((rx yl 0 5 ((AV.slice h.nx 0 N N true)::(yl 6)::(af 0)::rx yl 8 44 [])):List AV).getD k_ aB)
 have hg3:=SG
 rw[agO b2] at hg3
 obtain ⟨r,kr,nr,LZ⟩:=mR (d:=d) (h:=hm) (a:=AV.slice h.nx 0 (D2.map Int.toNat).length (D2.map Int.toNat).length true) (SW.own (op:=true) hg3 (by simp;omega) (fun _=>by simp;omega)) (by simp;omega)
 rw[show (D2.map Int.toNat).length=N by simp;omega] at kr
 have ev:=pk (d+1) sw (a::b::aV 50) h .ret hm (CN 2<|PP afd<|CN 2<|LL cf<|CC<|LL ajm<|CC<|EE kr<|CC<|ZZ) k!
 obtain ⟨n1,n2⟩:=PC b2
 rw[tX n2] at nr
 have ev9:bN (List.map Int.toNat D2)=A - D:=by omega
 rw[ev9] at nr
 have nw:mm h r:=mm.sub (mm.slice (Nat.le_refl _)) LZ
 obtain ⟨hk,k1,k2,k3⟩:=HA rfl (az Tryz.func92 aaW k! (.inr rfl) ev k!) aw ⟨al6,al7,by omega⟩ nr nw
 exact ⟨r,hk,k1,k2,k3,nw⟩
noncomputable def mT:Code:=(Tryz.f57.body).getD .skip
theorem yK:Tryz.f57.body=some mT:=by kernel_rfl
theorem SH {call:aE} {h:ah} {ma mb:Bool} {oD oE oF oG oH jz jA jB jC jD:Int} {fI cU:AV} {y3 y5:Int} (aw:Tidy h) (ES:0≤h.nx) (k4:∀hh,Tidy hh→Has h hh→(h.nx≤hh.nx∧0≤hh.nx)→call (.fn 21) [(AV.agg (au ma oD oE oF oG fI oH))] hh= .ret (af y3) hh) (k6:∀hh,Tidy hh→Has h hh→(h.nx≤hh.nx∧0≤hh.nx)→call (.fn 21) [(AV.agg (au mb jz jA jB jC cU jD))] hh= .ret (af y5) hh) (c7:AV.same 20 (AV.agg (au ma oD oE oF oG fI oH)) (AV.agg (au ma oD oE oF oG fI oH))=true) (c8:AV.same 20 (AV.agg (au mb jz jA jB jC cU jD)) (AV.agg (au mb jz jA jB jC cU jD))=true) (q9:(!decide (y3=y5))=true) (Dj:(decide (y3<y5))=true):
 ∃(h1:ah) (h2:ah),Ev env call mT ⟨((AV.agg (au ma oD oE oF oG fI oH))::(AV.agg (au mb jz jA jB jC cU jD))::aV 26),h,[],.no⟩ .ret ⟨((AV.agg (au ma oD oE oF oG fI oH))::(AV.agg (au mb jz jA jB jC cU jD))::(AV.ptr h.nx 0)::(AV.ptr (h.nx+1) 0)::(af (-1))::(af y3)::(af y5)::aB::(AV.agg (au ma oD oE oF oG fI oH))::(af y3)::(AV.agg (au mb jz jA jB jC cU jD))::(af y5)::(af y3)::(af y5)::(aj (!decide (y3=y5)))::(af y3)::(af y5)::(aj (decide (y3<y5)))::aV 10),h2,[],.no⟩∧Tidy h2∧Has h h2∧h2.nx=h.nx+2∧h2.get h.nx=some (ar.cells (au ma oD oE oF oG fI oH) 60 false)∧h2.get (h.nx+1)=some (ar.cells (au mb jz jA jB jC cU jD) 60 false):=by
 obtain ⟨h1,aO⟩:=eH (h:=h) (ar.cells (au ma oD oE oF oG fI oH) 60 false)
 have aK:=bI aw aO
 have bm:h1.nx=h.nx+1:=by rw[cW aO]
 have aD:=bu aw aO
 have aC:=bU aO
 obtain ⟨h2,bD⟩:=eH (h:=h1) (ar.cells (au mb jz jA jB jC cU jD) 60 false)
 have bP:=bI aK bD
 have iA:h2.nx=h.nx+2:=by rw[cW bD,bm]
 have b7:=aD.trans (bu aK bD)
 have bB:h2.get (h.nx+1)=some (ar.cells (au mb jz jA jB jC cU jD) 60 false):=by rw[←bm];exact bU bD
 exact ⟨h1,h2,aR (n:=200) (NN aO (fun i=>(AV.ptr i 0))<|AA (.a (ar.cells (au mb jz jA jB jC cU jD) 60 false) (AV.ptr (h.nx+1) 0) h2)<|HH bD<|HH (show ∃mk:Nat→AV,some (ar.cells (au mb jz jA jB jC cU jD) 60 false,fun i=>(AV.ptr i 0))=some (ar.cells (au mb jz jA jB jC cU jD) 60 false,mk)∧mk h1.nx=(AV.ptr (h.nx+1) 0) from ⟨_,rfl,by rw[bm]⟩)<|CC<|MM (aJ 60 0 (AV.agg (au ma oD oE oF oG fI oH)) (b6 aK bD aC) k!)<|MM (aJ 60 0 (AV.agg (au mb jz jA jB jC cU jD)) bB k!)<|EE (show call (.fn 21) [(AV.agg (au ma oD oE oF oG fI oH))] h2= .ret (af y3) h2 from k4 _ bP b7 ⟨by omega,by omega⟩)<|EE (show call (.fn 21) [(AV.agg (au mb jz jA jB jC cU jD))] h2= .ret (af y5) h2 from k6 _ bP b7 ⟨by omega,by omega⟩)<|CN 2<|HH (aJ 60 0 (AV.agg (au ma oD oE oF oG fI oH)) (b6 aK bD aC) k!)<|HH c7<|HH (aJ 60 0 (AV.agg (au mb jz jA jB jC cU jD)) bB k!)<|HH c8<|HH (aJ 60 0 (AV.agg (au mb jz jA jB jC cU jD)) bB k!)<|HH c8<|CN 2<|VV (jb 3 false false .i64 y3 y5)<|BB q9<|CN 2<|VV (bh 3 false false .i64 y3 y5)<|BB Dj<|CC<|ZZ) k!,bP,b7,iA,b6 aK bD aC,bB⟩
theorem SI {call:aE} {h:ah} {ma mb:Bool} {oD oE oF oG oH jz jA jB jC jD:Int} {fI cU:AV} {y3 y5:Int} (aw:Tidy h) (ES:0≤h.nx) (k4:∀hh,Tidy hh→Has h hh→(h.nx≤hh.nx∧0≤hh.nx)→call (.fn 21) [(AV.agg (au ma oD oE oF oG fI oH))] hh= .ret (af y3) hh) (k6:∀hh,Tidy hh→Has h hh→(h.nx≤hh.nx∧0≤hh.nx)→call (.fn 21) [(AV.agg (au mb jz jA jB jC cU jD))] hh= .ret (af y5) hh) (c7:AV.same 20 (AV.agg (au ma oD oE oF oG fI oH)) (AV.agg (au ma oD oE oF oG fI oH))=true) (c8:AV.same 20 (AV.agg (au mb jz jA jB jC cU jD)) (AV.agg (au mb jz jA jB jC cU jD))=true) (q9:(!decide (y3=y5))=true) (Dj:(decide (y3<y5))=false):
 ∃(h1:ah) (h2:ah),Ev env call mT ⟨((AV.agg (au ma oD oE oF oG fI oH))::(AV.agg (au mb jz jA jB jC cU jD))::aV 26),h,[],.no⟩ .ret ⟨((AV.agg (au ma oD oE oF oG fI oH))::(AV.agg (au mb jz jA jB jC cU jD))::(AV.ptr h.nx 0)::(AV.ptr (h.nx+1) 0)::(af 1)::(af y3)::(af y5)::aB::(AV.agg (au ma oD oE oF oG fI oH))::(af y3)::(AV.agg (au mb jz jA jB jC cU jD))::(af y5)::(af y3)::(af y5)::(aj (!decide (y3=y5)))::(af y3)::(af y5)::(aj (decide (y3<y5)))::aV 10),h2,[],.no⟩∧Tidy h2∧Has h h2∧h2.nx=h.nx+2∧h2.get h.nx=some (ar.cells (au ma oD oE oF oG fI oH) 60 false)∧h2.get (h.nx+1)=some (ar.cells (au mb jz jA jB jC cU jD) 60 false):=by
 obtain ⟨h1,aO⟩:=eH (h:=h) (ar.cells (au ma oD oE oF oG fI oH) 60 false)
 have aK:=bI aw aO
 have bm:h1.nx=h.nx+1:=by rw[cW aO]
 have aD:=bu aw aO
 have aC:=bU aO
 obtain ⟨h2,bD⟩:=eH (h:=h1) (ar.cells (au mb jz jA jB jC cU jD) 60 false)
 have bP:=bI aK bD
 have iA:h2.nx=h.nx+2:=by rw[cW bD,bm]
 have b7:=aD.trans (bu aK bD)
 have bB:h2.get (h.nx+1)=some (ar.cells (au mb jz jA jB jC cU jD) 60 false):=by rw[←bm];exact bU bD
 exact ⟨h1,h2,aR (n:=200) (NN aO (fun i=>(AV.ptr i 0))<|AA (.a (ar.cells (au mb jz jA jB jC cU jD) 60 false) (AV.ptr (h.nx+1) 0) h2)<|HH bD<|HH (show ∃mk:Nat→AV,some (ar.cells (au mb jz jA jB jC cU jD) 60 false,fun i=>(AV.ptr i 0))=some (ar.cells (au mb jz jA jB jC cU jD) 60 false,mk)∧mk h1.nx=(AV.ptr (h.nx+1) 0) from ⟨_,rfl,by rw[bm]⟩)<|CC<|MM (aJ 60 0 (AV.agg (au ma oD oE oF oG fI oH)) (b6 aK bD aC) k!)<|MM (aJ 60 0 (AV.agg (au mb jz jA jB jC cU jD)) bB k!)<|EE (show call (.fn 21) [(AV.agg (au ma oD oE oF oG fI oH))] h2= .ret (af y3) h2 from k4 _ bP b7 ⟨by omega,by omega⟩)<|EE (show call (.fn 21) [(AV.agg (au mb jz jA jB jC cU jD))] h2= .ret (af y5) h2 from k6 _ bP b7 ⟨by omega,by omega⟩)<|CN 2<|HH (aJ 60 0 (AV.agg (au ma oD oE oF oG fI oH)) (b6 aK bD aC) k!)<|HH c7<|HH (aJ 60 0 (AV.agg (au mb jz jA jB jC cU jD)) bB k!)<|HH c8<|HH (aJ 60 0 (AV.agg (au mb jz jA jB jC cU jD)) bB k!)<|HH c8<|CN 2<|VV (jb 3 false false .i64 y3 y5)<|BB q9<|CN 2<|VV (bh 3 false false .i64 y3 y5)<|BB Dj<|CC<|ZZ) k!,bP,b7,iA,b6 aK bD aC,bB⟩
theorem SJ {call:aE} {h:ah} {ma mb:Bool} {oD oE oF oG oH jz jA jB jC jD:Int} {fI cU:AV} {y3 y5 pO:Int} {gP sR:AV} (aw:Tidy h) (ES:0≤h.nx) (k4:∀hh,Tidy hh→Has h hh→(h.nx≤hh.nx∧0≤hh.nx)→call (.fn 21) [(AV.agg (au ma oD oE oF oG fI oH))] hh= .ret (af y3) hh) (k6:∀hh,Tidy hh→Has h hh→(h.nx≤hh.nx∧0≤hh.nx)→call (.fn 21) [(AV.agg (au mb jz jA jB jC cU jD))] hh= .ret (af y5) hh) (c7:AV.same 20 (AV.agg (au ma oD oE oF oG fI oH)) (AV.agg (au ma oD oE oF oG fI oH))=true) (c8:AV.same 20 (AV.agg (au mb jz jA jB jC cU jD)) (AV.agg (au mb jz jA jB jC cU jD))=true) (q9:(!decide (y3=y5))=false) (k11:∀hh,Tidy hh→Has h hh→(h.nx≤hh.nx∧0≤hh.nx)→hh.get h.nx=some (ar.cells (au ma oD oE oF oG fI oH) 60 false)→call (.fn 79) [(AV.ptr h.nx 1)] hh= .ret gP hh) (k13:∀hh,Tidy hh→Has h hh→(h.nx≤hh.nx∧0≤hh.nx)→hh.get (h.nx+1)=some (ar.cells (au mb jz jA jB jC cU jD) 60 false)→call (.fn 79) [(AV.ptr (h.nx+1) 1)] hh= .ret sR hh) (k15:∀hh,Tidy hh→Has h hh→(h.nx≤hh.nx∧0≤hh.nx)→hh.get h.nx=some (ar.cells (au ma oD oE oF oG fI oH) 60 false)→hh.get (h.nx+1)=some (ar.cells (au mb jz jA jB jC cU jD) 60 false)→call (.fn 93) [gP,sR] hh= .ret (af pO) hh) (q16:ma=true):
 ∃(h1:ah) (h2:ah),Ev env call mT ⟨((AV.agg (au ma oD oE oF oG fI oH))::(AV.agg (au mb jz jA jB jC cU jD))::aV 26),h,[],.no⟩ .ret ⟨[(AV.agg (au ma oD oE oF oG fI oH)),(AV.agg (au mb jz jA jB jC cU jD)),(AV.ptr h.nx 0),(AV.ptr (h.nx+1) 0),(af (IntKind.i64.wrap (0 - pO))),(af y3),(af y5),(af pO),(AV.agg (au ma oD oE oF oG fI oH)),(af y3),(AV.agg (au mb jz jA jB jC cU jD)),(af y5),(af y3),(af y5),(aj (!decide (y3=y5))),aB,aB,aB,(AV.ptr h.nx 1),gP,(AV.ptr (h.nx+1) 1),sR,(af pO),(AV.ptr h.nx 0),(aj ma),(af pO),(af (IntKind.i64.wrap (0 - pO))),aB],h2,[],.no⟩∧Tidy h2∧Has h h2∧h2.nx=h.nx+2∧h2.get h.nx=some (ar.cells (au ma oD oE oF oG fI oH) 60 false)∧h2.get (h.nx+1)=some (ar.cells (au mb jz jA jB jC cU jD) 60 false):=by
 obtain ⟨h1,aO⟩:=eH (h:=h) (ar.cells (au ma oD oE oF oG fI oH) 60 false)
 have aK:=bI aw aO
 have bm:h1.nx=h.nx+1:=by rw[cW aO]
 have aD:=bu aw aO
 have aC:=bU aO
 obtain ⟨h2,bD⟩:=eH (h:=h1) (ar.cells (au mb jz jA jB jC cU jD) 60 false)
 have bP:=bI aK bD
 have iA:h2.nx=h.nx+2:=by rw[cW bD,bm]
 have b7:=aD.trans (bu aK bD)
 have bB:h2.get (h.nx+1)=some (ar.cells (au mb jz jA jB jC cU jD) 60 false):=by rw[←bm];exact bU bD
 exact ⟨h1,h2,aR (n:=200) (NN aO (fun i=>(AV.ptr i 0))<|AA (.a (ar.cells (au mb jz jA jB jC cU jD) 60 false) (AV.ptr (h.nx+1) 0) h2)<|HH bD<|HH (show ∃mk:Nat→AV,some (ar.cells (au mb jz jA jB jC cU jD) 60 false,fun i=>(AV.ptr i 0))=some (ar.cells (au mb jz jA jB jC cU jD) 60 false,mk)∧mk h1.nx=(AV.ptr (h.nx+1) 0) from ⟨_,rfl,by rw[bm]⟩)<|CC<|MM (aJ 60 0 (AV.agg (au ma oD oE oF oG fI oH)) (b6 aK bD aC) k!)<|MM (aJ 60 0 (AV.agg (au mb jz jA jB jC cU jD)) bB k!)<|EE (show call (.fn 21) [(AV.agg (au ma oD oE oF oG fI oH))] h2= .ret (af y3) h2 from k4 _ bP b7 ⟨by omega,by omega⟩)<|EE (show call (.fn 21) [(AV.agg (au mb jz jA jB jC cU jD))] h2= .ret (af y5) h2 from k6 _ bP b7 ⟨by omega,by omega⟩)<|CN 2<|HH (aJ 60 0 (AV.agg (au ma oD oE oF oG fI oH)) (b6 aK bD aC) k!)<|HH c7<|HH (aJ 60 0 (AV.agg (au mb jz jA jB jC cU jD)) bB k!)<|HH c8<|HH (aJ 60 0 (AV.agg (au mb jz jA jB jC cU jD)) bB k!)<|HH c8<|CN 2<|VV (jb 3 false false .i64 y3 y5)<|BB q9<|CC<|EE (show call (.fn 79) [(AV.ptr h.nx 1)] h2= .ret gP h2 from k11 _ bP b7 ⟨by omega,by omega⟩ (b6 aK bD aC))<|CC<|EE (show call (.fn 79) [(AV.ptr (h.nx+1) 1)] h2= .ret sR h2 from k13 _ bP b7 ⟨by omega,by omega⟩ bB)<|EE (show call (.fn 93) [gP,sR] h2= .ret (af pO) h2 from k15 _ bP b7 ⟨by omega,by omega⟩ (b6 aK bD aC) bB)<|CN 2<|MM (aJ 4 0 (aj ma) (b6 aK bD aC) k!)<|BB q16<|CN 3<|ZZ) k!,bP,b7,iA,b6 aK bD aC,bB⟩
theorem SK {call:aE} {h:ah} {ma mb:Bool} {oD oE oF oG oH jz jA jB jC jD:Int} {fI cU:AV} {y3 y5 pO:Int} {gP sR:AV} (aw:Tidy h) (ES:0≤h.nx) (k4:∀hh,Tidy hh→Has h hh→(h.nx≤hh.nx∧0≤hh.nx)→call (.fn 21) [(AV.agg (au ma oD oE oF oG fI oH))] hh= .ret (af y3) hh) (k6:∀hh,Tidy hh→Has h hh→(h.nx≤hh.nx∧0≤hh.nx)→call (.fn 21) [(AV.agg (au mb jz jA jB jC cU jD))] hh= .ret (af y5) hh) (c7:AV.same 20 (AV.agg (au ma oD oE oF oG fI oH)) (AV.agg (au ma oD oE oF oG fI oH))=true) (c8:AV.same 20 (AV.agg (au mb jz jA jB jC cU jD)) (AV.agg (au mb jz jA jB jC cU jD))=true) (q9:(!decide (y3=y5))=false) (k11:∀hh,Tidy hh→Has h hh→(h.nx≤hh.nx∧0≤hh.nx)→hh.get h.nx=some (ar.cells (au ma oD oE oF oG fI oH) 60 false)→call (.fn 79) [(AV.ptr h.nx 1)] hh= .ret gP hh) (k13:∀hh,Tidy hh→Has h hh→(h.nx≤hh.nx∧0≤hh.nx)→hh.get (h.nx+1)=some (ar.cells (au mb jz jA jB jC cU jD) 60 false)→call (.fn 79) [(AV.ptr (h.nx+1) 1)] hh= .ret sR hh) (k15:∀hh,Tidy hh→Has h hh→(h.nx≤hh.nx∧0≤hh.nx)→hh.get h.nx=some (ar.cells (au ma oD oE oF oG fI oH) 60 false)→hh.get (h.nx+1)=some (ar.cells (au mb jz jA jB jC cU jD) 60 false)→call (.fn 93) [gP,sR] hh= .ret (af pO) hh) (q16:ma=false):
 ∃(h1:ah) (h2:ah),Ev env call mT ⟨((AV.agg (au ma oD oE oF oG fI oH))::(AV.agg (au mb jz jA jB jC cU jD))::aV 26),h,[],.no⟩ .ret ⟨[(AV.agg (au ma oD oE oF oG fI oH)),(AV.agg (au mb jz jA jB jC cU jD)),(AV.ptr h.nx 0),(AV.ptr (h.nx+1) 0),(af pO),(af y3),(af y5),(af pO),(AV.agg (au ma oD oE oF oG fI oH)),(af y3),(AV.agg (au mb jz jA jB jC cU jD)),(af y5),(af y3),(af y5),(aj (!decide (y3=y5))),aB,aB,aB,(AV.ptr h.nx 1),gP,(AV.ptr (h.nx+1) 1),sR,(af pO),(AV.ptr h.nx 0),(aj ma),aB,aB,(af pO)],h2,[],.no⟩∧Tidy h2∧Has h h2∧h2.nx=h.nx+2∧h2.get h.nx=some (ar.cells (au ma oD oE oF oG fI oH) 60 false)∧h2.get (h.nx+1)=some (ar.cells (au mb jz jA jB jC cU jD) 60 false):=by
 obtain ⟨h1,aO⟩:=eH (h:=h) (ar.cells (au ma oD oE oF oG fI oH) 60 false)
 have aK:=bI aw aO
 have bm:h1.nx=h.nx+1:=by rw[cW aO]
 have aD:=bu aw aO
 have aC:=bU aO
 obtain ⟨h2,bD⟩:=eH (h:=h1) (ar.cells (au mb jz jA jB jC cU jD) 60 false)
 have bP:=bI aK bD
 have iA:h2.nx=h.nx+2:=by rw[cW bD,bm]
 have b7:=aD.trans (bu aK bD)
 have bB:h2.get (h.nx+1)=some (ar.cells (au mb jz jA jB jC cU jD) 60 false):=by rw[←bm];exact bU bD
 exact ⟨h1,h2,aR (n:=200) (NN aO (fun i=>(AV.ptr i 0))<|AA (.a (ar.cells (au mb jz jA jB jC cU jD) 60 false) (AV.ptr (h.nx+1) 0) h2)<|HH bD<|HH (show ∃mk:Nat→AV,some (ar.cells (au mb jz jA jB jC cU jD) 60 false,fun i=>(AV.ptr i 0))=some (ar.cells (au mb jz jA jB jC cU jD) 60 false,mk)∧mk h1.nx=(AV.ptr (h.nx+1) 0) from ⟨_,rfl,by rw[bm]⟩)<|CC<|MM (aJ 60 0 (AV.agg (au ma oD oE oF oG fI oH)) (b6 aK bD aC) k!)<|MM (aJ 60 0 (AV.agg (au mb jz jA jB jC cU jD)) bB k!)<|EE (show call (.fn 21) [(AV.agg (au ma oD oE oF oG fI oH))] h2= .ret (af y3) h2 from k4 _ bP b7 ⟨by omega,by omega⟩)<|EE (show call (.fn 21) [(AV.agg (au mb jz jA jB jC cU jD))] h2= .ret (af y5) h2 from k6 _ bP b7 ⟨by omega,by omega⟩)<|CN 2<|HH (aJ 60 0 (AV.agg (au ma oD oE oF oG fI oH)) (b6 aK bD aC) k!)<|HH c7<|HH (aJ 60 0 (AV.agg (au mb jz jA jB jC cU jD)) bB k!)<|HH c8<|HH (aJ 60 0 (AV.agg (au mb jz jA jB jC cU jD)) bB k!)<|HH c8<|CN 2<|VV (jb 3 false false .i64 y3 y5)<|BB q9<|CC<|EE (show call (.fn 79) [(AV.ptr h.nx 1)] h2= .ret gP h2 from k11 _ bP b7 ⟨by omega,by omega⟩ (b6 aK bD aC))<|CC<|EE (show call (.fn 79) [(AV.ptr (h.nx+1) 1)] h2= .ret sR h2 from k13 _ bP b7 ⟨by omega,by omega⟩ bB)<|EE (show call (.fn 93) [gP,sR] h2= .ret (af pO) h2 from k15 _ bP b7 ⟨by omega,by omega⟩ (b6 aK bD aC) bB)<|CN 2<|MM (aJ 4 0 (aj ma) (b6 aK bD aC) k!)<|BB q16<|CN 2<|ZZ) k!,bP,b7,iA,b6 aK bD aC,bB⟩
theorem iw.same {h:ah} {neg:Bool} {w0 w1 w2 w3 us:Int} {far:AV} {l:List Nat} (w:iw h [.bool neg,.int .u64 w0,.int .u64 w1,.int .u64 w2,.int .u64 w3,far,.int .i64 us] 1 l):AV.same 20 (.agg [.bool neg,.int .u64 w0,.int .u64 w1,.int .u64 w2,.int .u64 w3,far,.int .i64 us]) (.agg [.bool neg,.int .u64 w0,.int .u64 w1,.int .u64 w2,.int .u64 w3,far,.int .i64 us])=true:=by
 have hf:AV.same 19 far far=true:=by
  rcases w.2 with ⟨h4,_⟩ | ⟨q,oo,n,c,b,l',h4,hn,hl⟩
  · have:far= .ax:=by simpa using h4
    subst this;rfl
  · have:far= .slice q oo n c b:=by simpa using h4
    subst this;exact F8 18 _ _ _ _ _
 show dL (AV.same 19) [_,_,_,_,_,far,_] [_,_,_,_,_,far,_]=true
 simp only[dL,hf,Vo,aP,Bool.and_true,Bool.and_self]
def SL (na:Bool) (l:List Nat) (nb:Bool) (m:List Nat):Int:=
 if (if l=[] then (0:Int) else if na then -1 else 1)=(if m=[] then (0:Int) else if nb then -1 else 1) then (if na then 0 - tH l m else tH l m)
 else if (if l=[] then (0:Int) else if na then -1 else 1)<(if m=[] then (0:Int) else if nb then -1 else 1) then -1 else 1
theorem HE (l m:List Nat):∀k,-1≤mJ l m k∧mJ l m k≤1
 | 0=>by simp [mJ]
 | k+1=>by
  have:=HE l m k
  simp only[mJ]
  split
  · exact this
  · split<;>omega
theorem aaZ (l m:List Nat): -1≤tH l m∧tH l m≤1:=by
 unfold tH
 split
 · exact HE l m _
 · split<;>omega
theorem JP {d:Nat} {h:ah} {cs ds:List AV} {na nb:Bool} {l m:List Nat} (hw:cj h cs na l) (hv:cj h ds nb m) (hy:Tidy h) (po:0≤h.nx):
 aQ (d+2) (.fn 57) [.agg cs,.agg ds] h= .ret (.int .i64 (SL na l nb m)) h:=by
 have up:∀{hh:ah} {cs:List AV} {n:Bool} {l:List Nat},cj h cs n l→Has h hh→h.nx≤hh.nx→cj hh cs n l:=fun {hh cs n l} ⟨a,b,c,e,u,f,h1,h2,h3,h4⟩ ha hle=>by
  refine ⟨a,b,c,e,u,f,h1,h2,?_,h4.has ha⟩
  revert h3
  subst h1
  rcases h4.2 with ⟨h4,_⟩ | ⟨q,oo,n,c,b,l',h4,hn,hl⟩
  · have:f= .ax:=by simpa using h4
    subst this;exact fun _=>rfl
  · have:f= .slice q oo n c b:=by simpa using h4
    subst this
    exact fun g=>decide_eq_true (Nat.lt_of_lt_of_le (of_decide_eq_true g) hle)
 have sg:∀{cs:List AV} {n:Bool} {l:List Nat},cj h cs n l→∀hh,Tidy hh→Has h hh→0≤hh.nx→h.nx≤hh.nx→aQ (d+1) (.fn 21) [.agg cs] hh= .ret (.int .i64 (if l=[] then 0 else if n then -1 else 1)) hh:=fun w hh t a b c=>Hh (up w a c) t o!
 have kA:=sg hw
 have kB:=sg hv
 obtain ⟨oD,oE,oF,oG,oH,fI,rfl,sca,wfa,CI⟩:=hw
 obtain ⟨jz,jA,jB,jC,jD,cU,rfl,scb,wfb,hcb⟩:=hv
 have c7:=CI.same
 have c8:=hcb.same
 obtain ⟨r1,Mg⟩:=Gx (d:=d) (p:=h.nx) CI
 obtain ⟨r2,hr2⟩:=Gx (d:=d) (p:=h.nx+1) hcb
 have SM:0≤h.nx:=Nat.zero_le _
 unfold SL
 by_cases q:(if l=[] then (0:Int) else if na then -1 else 1)=(if m=[] then (0:Int) else if nb then -1 else 1)
 · rw[if_pos q]
   have nq:=nF q
   cases na with
   | true=>
    obtain ⟨h1,h2,ev,y1,a1,_⟩:=SJ (call:=aQ (d+1)) (ma:=true) hy SM (fun hh t a b=>kA hh t a b.2 b.1) (fun hh t a b=>kB hh t a b.2 b.1) c7 c8 nq (fun hh t a b g=>(Mg hh _ _ a g).1) (fun hh t a b g=>(hr2 hh _ _ a g).1) (fun hh t a b g1 g2=>fC (Mg hh _ _ a g1).2 (hr2 hh _ _ a g2).2) rfl
    have e:IntKind.i64.wrap (0 - tH l m)=0 - tH l m:=by
     have:=aaZ l m
     exact wrap_i64 o! o!
    simp only[if_true]
    rw[←e]
    exact ai rfl (az Tryz.func57 yK k! (.inr rfl) ev k!) a1 rfl
   | false=>
    obtain ⟨h1,h2,ev,y1,a1,_⟩:=SK (call:=aQ (d+1)) (ma:=false) hy SM (fun hh t a b=>kA hh t a b.2 b.1) (fun hh t a b=>kB hh t a b.2 b.1) c7 c8 nq (fun hh t a b g=>(Mg hh _ _ a g).1) (fun hh t a b g=>(hr2 hh _ _ a g).1) (fun hh t a b g1 g2=>fC (Mg hh _ _ a g1).2 (hr2 hh _ _ a g2).2) rfl
    simp only[Bool.false_eq_true,if_false]
    exact ai rfl (az Tryz.func57 yK k! (.inr rfl) ev k!) a1 rfl
 · rw[if_neg q]
   have nq:=nT q
   by_cases lt:(if l=[] then (0:Int) else if na then -1 else 1)<(if m=[] then (0:Int) else if nb then -1 else 1)
   · rw[if_pos lt]
     obtain ⟨h1,h2,ev,y1,a1,_⟩:=SH (call:=aQ (d+1)) (ma:=na) hy SM (fun hh t a b=>kA hh t a b.2 b.1) (fun hh t a b=>kB hh t a b.2 b.1) c7 c8 nq (dT lt)
     exact ai rfl (az Tryz.func57 yK k! (.inr rfl) ev k!) a1 rfl
   · rw[if_neg lt]
     obtain ⟨h1,h2,ev,y1,a1,_⟩:=SI (call:=aQ (d+1)) (ma:=na) hy SM (fun hh t a b=>kA hh t a b.2 b.1) (fun hh t a b=>kB hh t a b.2 b.1) c7 c8 nq (dF lt)
     exact ai rfl (az Tryz.func57 yK k! (.inr rfl) ev k!) a1 rfl
end Go.Proofs.aF
