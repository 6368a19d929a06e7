import Derived.Test.YtkkpegaeikljmaaGreatDoorA6
import Derived.Test.YtkkpegaeikljmaaGreatDoorW0
import Derived.Test.YtkkpegaeikljmaaGreatDoorEnv
import Derived.Test.YtkkpegaeikljmaaGreatDoorW11
import Derived.Test.YtkkpegaeikljmaaGreatDoorW12
import Derived.Test.YtkkpegaeikljmaaGreatDoorW9
namespace Go.Proofs.aF
open Go.Proofs Ab
set_option maxRecDepth 100000
set_option maxHeartbeats 4000000
set_option linter.unusedVariables false
set_option linter.unusedSimpArgs false
noncomputable def mU:Code:=(Tryz.f54.body).getD .skip
theorem JT:Tryz.f54.body=some mU:=by kernel_rfl
noncomputable def mh:Code:=(aY mU).getD 0 .skip
noncomputable def ov:Code:=(aY mU).getD 1 .skip
theorem rm {d:Nat} {b r1 w0 w6 w8:AV} {D R q:Nat} (hD:D≠0) (hq:q=R/D) (Mh:(nW D).length<2^27) (XA:(nW R).length<2^27):∀(m low high:Nat) (h:ah),high - low≤m→low≤q→q≤high→high≤999999999→Tidy h→SW h b (nW D)→SW h r1 (nW R)→∀x:Nat→AV,
 ∃h2:ah,(∃y:Nat→AV,Ev env (aQ (d+4)) (.loop ov) ⟨(w0::b::rx x 2 4 (w6::r1::w8::(ag low)::(ag high)::rx x 11 86 [])),h,[],.no⟩ (.exit 2) ⟨(w0::b::rx y 2 4 (w6::r1::w8::(ag q)::rx y 10 87 [])),h2,[],.no⟩)∧Grow h h2
 | 0,low,high,h,hm,DM,E8,h9,aw,hb,hr,x=>by
  have e:low=q:=by omega
  have q1:=cI ((low:Int)<(high:Int))
  have ev:=pk (d+4) ov (w0::b::rx x 2 4 (w6::r1::w8::(ag low)::(ag high)::rx x 11 86 [])) h (.exit 2) h (CN 2<|VV (bh 3 false false .i64 (low:Int) (high:Int))<|BB q1<|ZZ) k!
  rw[←e]
  exact ⟨h,cT (Ev.out ev) k!,Grow.refl aw⟩
 | m+1,low,high,h,hm,DM,E8,h9,aw,hb,hr,x=>by
  by_cases c:low<high
  · have hml:((low+high)+1) /2≤999999999:=by omega
    have ho:=Ly (D*((low+high+1) /2)) R
    by_cases c2:(low+high+1) /2≤q
    · have hle:D*((low+high+1) /2)≤R:=by
       rw[Nat.mul_comm];exact (Nat.le_div_iff_mul_le o!).1 (hq▸c2)
      have hc:iL (nW (D*((low+high+1) /2))) (nW R)≤0:=by
       rw[ho]
       split
       · omega
       · rw[if_pos o!];omega
      clear ho
      have q1:=dg ((low:Int)<(high:Int))
      have u2:=fX 3 false false low high o!
      have u3:=fX 3 false true (low+high) 1 o!
      have u4:=Gr 3 false true ((low+high)+1) 2 o! o!
      obtain ⟨h5,Wi,fA,wM,lu,aa6⟩:=de aw (ar.cells [(ag (((low+high)+1) /2))] 3 false)
      have ep:Has h h5:=aa6
      have gm:=lu
      obtain ⟨zt,h6,vL,jm,QE,nwt⟩:=xG (d:=d+2) (h:=h5) (hb.has ep) (fi (op:=false) gm) (eS D) (bS.one o!) (by simp;omega) fA
      have dh:=jm.y
      have GG:=jm.n
      rw[jo,show bN [((low+high)+1) /2]=(low+high+1) /2 by simp [bN]] at QE
      have dK:=ep.trans jm.a
      have ko:=om (d:=d+3) (h:=h6) QE (hr.has dK) QE.small
      have q7:=dg ((iL (nW (D*((low+high+1) /2))) (nW R))≤0)
      have ev:=pk (d+4) ov (w0::b::rx x 2 4 (w6::r1::w8::(ag low)::(ag high)::rx x 11 86 [])) h .normal h6 (CN 2<|VV (bh 3 false false .i64 (low:Int) (high:Int))<|BB q1<|CN 2<|VV u2<|VV u3<|VV u4<|CN 3<|NN Wi (fun i=>(AV.slice i 0 1 1 false))<|EE vL<|CC<|EE ko<|VV (yV 3 false true .i64 (iL (nW (D*((low+high+1) /2))) (nW R)) 0)<|BB q7<|CN 2<|ZZ) k!
      obtain ⟨h2,h3,h4⟩:=dj (tin:=fun x=>(w0::b::rx x 2 4 (w6::r1::w8::(ag (((low+high)+1) /2))::(ag high)::rx x 11 86 []))) ev k! fun x=>rm (d:=d) (w0:=w0) (w6:=w6) (w8:=w8) hD hq Mh XA m ((low+high+1) /2) high h6 o! c2 E8 h9 dh (hb.has dK) (hr.has dK) x
      exact ⟨h2,h3,(Grow.mk dh dK o!).trans h4⟩
    · have gL:R<D*((low+high+1) /2):=by
       rw[Nat.mul_comm];exact (Nat.div_lt_iff_lt_mul o!).1 (hq▸(show q<(low+high+1) /2 by omega))
      have hc:¬iL (nW (D*((low+high+1) /2))) (nW R)≤0:=by
       rw[ho,if_neg o!,if_neg o!];omega
      clear ho
      have q1:=dg ((low:Int)<(high:Int))
      have u2:=fX 3 false false low high o!
      have u3:=fX 3 false true (low+high) 1 o!
      have u4:=Gr 3 false true ((low+high)+1) 2 o! o!
      obtain ⟨h5,Wi,fA,wM,lu,aa6⟩:=de aw (ar.cells [(ag (((low+high)+1) /2))] 3 false)
      have ep:Has h h5:=aa6
      have gm:=lu
      obtain ⟨zt,h6,vL,jm,QE,nwt⟩:=xG (d:=d+2) (h:=h5) (hb.has ep) (fi (op:=false) gm) (eS D) (bS.one o!) (by simp;omega) fA
      have dh:=jm.y
      have GG:=jm.n
      rw[jo,show bN [((low+high)+1) /2]=(low+high+1) /2 by simp [bN]] at QE
      have dK:=ep.trans jm.a
      have ko:=om (d:=d+3) (h:=h6) QE (hr.has dK) QE.small
      have q7:=cI ((iL (nW (D*((low+high+1) /2))) (nW R))≤0)
      have u8:=KQ 3 false true (((low+high)+1) /2) 1 o! o!
      have ev:=pk (d+4) ov (w0::b::rx x 2 4 (w6::r1::w8::(ag low)::(ag high)::rx x 11 86 [])) h .normal h6 (CN 2<|VV (bh 3 false false .i64 (low:Int) (high:Int))<|BB q1<|CN 2<|VV u2<|VV u3<|VV u4<|CN 3<|NN Wi (fun i=>(AV.slice i 0 1 1 false))<|EE vL<|CC<|EE ko<|VV (yV 3 false true .i64 (iL (nW (D*((low+high+1) /2))) (nW R)) 0)<|BB q7<|CC<|VV u8<|CC<|ZZ) k!
      obtain ⟨h2,h3,h4⟩:=dj (tin:=fun x=>(w0::b::rx x 2 4 (w6::r1::w8::(ag low)::(ag ((((low+high)+1) /2) - 1))::rx x 11 86 []))) ev k! fun x=>rm (d:=d) (w0:=w0) (w6:=w6) (w8:=w8) hD hq Mh XA m low ((low+high+1) /2 - 1) h6 o! DM o! o! dh (hb.has dK) (hr.has dK) x
      exact ⟨h2,h3,(Grow.mk dh dK o!).trans h4⟩
  · have e:low=q:=by omega
    have q1:=cI ((low:Int)<(high:Int))
    have ev:=pk (d+4) ov (w0::b::rx x 2 4 (w6::r1::w8::(ag low)::(ag high)::rx x 11 86 [])) h (.exit 2) h (CN 2<|VV (bh 3 false false .i64 (low:Int) (high:Int))<|BB q1<|ZZ) k!
    rw[←e]
    exact ⟨h,cT (Ev.out ev) k!,Grow.refl aw⟩
theorem Kept.Cl {p q:Nat} {h0 h h':ah} (k0:Kept p h0 h) (k:Kept q h h') (y0:Tidy h0) (hq:h0.nx≤q):Kept p h0 h':=fun i x hi g=>by
 have:=y0 i x g
 exact k i x o! (k0 i x hi g)
theorem adA (n j:Nat):(List.replicate n 0).getD j 0=0:=by
 rw[List.getD_eq_getElem?_getD,List.getElem?_replicate];split<;>rfl
theorem vh {h:ah} {s xt:TypeId} {tys:Array TypeId} {p0 w:Nat} {x:AV} {m:List Nat} (y:Tidy h) (t0:tys[0]? =some s) (t1:tys[1]? =some xt) (hs:env.P.underlying s=some (.slice 3)) (hx:env.P.underlying xt=some (.slice 3)) (hg:h.get p0=some (.cells [.int .i64 (w:Nat)] 3 false)) (x1:SW h x m) (hl:m.length<2^28):
 ∃z' h',dI env h tys (.slice p0 0 1 1 false) x=some (z',h')∧Tidy h'∧h.nx≤h'.nx∧Kept p0 h h'∧SW h' z' (w::m)∧(∀q,q<p0→mj q z'):=by
 have hg':h.get p0=some (.cells (aA .i64 [w]) 3 false):=hg
 have hp:=y _ _ hg
 have f1:bK env 3=some 1:=by kernel_rfl
 have f2:mr env 3=some 8:=by kernel_rfl
 have f3:jW env 3=some (af 0):=by kernel_rfl
 by_cases q:m=[]
 · subst q
   have hl:=x1.rI
   have hf:=x1.first
   simp only[List.length_nil] at hl hf
   have c:=il (o:= .cells (aA .i64 [w]) 3 false) y hg
   refine ⟨.slice p0 0 1 1 false,h.put p0 (some (.cells (aA .i64 [w]) 3 false)),?_,c.1,Nat.le_refl _,c.2.2,SW.own (op:=false) c.2.1 (by simp) (by simp),fun q hq=>?_⟩
   · simp only[dI,t0,t1,hs,hx,pZ,f1,f2,hl,hf,f3,hg]
     rfl
   · intro o n cc b e;cases e;omega
 · obtain ⟨h',e1,y1,z1,k1,g1⟩:=uJ (op:=false) (k:= .i64) y t0 t1 hs hx f1 f2 f3 rfl (by decide) x1 (l:=[w]) rfl q (by simp;omega) hg'
   refine ⟨_,h',e1,y1,by omega,k1,?_,fun q hq o n cc b e=>by cases e;omega⟩
   have:=SW.own (op:=true) g1 (by simp;omega) (fun _=>by simp)
   rw[show ([w]++m).length=[w].length+m.length by simp;omega] at this
   exact this
theorem rn {l:List Nat} {k:Nat} (hk:k<l.length):l.drop k=l.getD k 0::l.drop (k+1):=by
 rw[List.drop_eq_getElem_cons hk,List.getD_eq_getElem?_getD,List.getElem?_eq_getElem hk];rfl
theorem agP {n:Nat} (h:n<1000000000*1000000000):n=(nW n).getD 0 0+(nW n).getD 1 0*1000000000∧(nW n).length≤2:=by
 have hl:(nW n).length≤2:=jS (by simpa using h)
 refine ⟨?_,hl⟩
 have hv:=jo n
 generalize nW n=l at *
 match l,hl with
 | [],_=>simpa [bN] using hv.symm
 | [a],_=>simpa [bN] using hv.symm
 | [a,b],_=>simp only[bN] at hv;simp;omega
theorem yO {n:Nat} (h:(nW n).length≤1):(nW n).getD 0 0=n:=by
 have hv:=jo n
 generalize nW n=l at *
 match l,h with
 | [],_=>simpa [bN] using hv
 | [a],_=>simpa [bN] using hv
theorem rp {d:Nat} {h0:ah} {a b:AV} {la:List Nat} {D p N:Nat} (y0:Tidy h0) (ha:SW h0 a la) (hb:SW h0 b (nW D)) (wa:bS la) (hD:D≠0) (adB:(nW D).length<2^26) (Df:la.length<2^26) (hN:N=la.length) (hp:h0.nx≤p):∀(k:Nat) (v:Int) (h:ah) (Q:List Nat) (R:Nat) (z:AV),v=(k:Nat) - 1→k≤N→Q.length=N→bS Q→(∀j,j<k→Q.getD j 0=0)→bN (la.drop k)=bN (Q.drop k)*D+R→R<D→Tidy h→Has h0 h→p<h.nx→h.get p=some (.cells (aA .i64 Q) 3 false)→SW h z (nW R)→mj p z→mm h0 z→∀x:Nat→AV,
 ∃(z2:AV) (h2:ah),(∃y:Nat→AV,Ev env (aQ (d+4)) (.loop mh) ⟨(a::b::rx x 2 4 ((AV.slice p 0 N N false)::z::(af v)::rx x 9 88 [])),h,[],.no⟩ (.exit 0) ⟨(rx y 0 6 ((AV.slice p 0 N N false)::z2::rx y 8 89 [])),h2,[],.no⟩)∧Tidy h2∧Has h0 h2∧p<h2.nx∧∃(Q2:List Nat) (R2:Nat),h2.get p=some (.cells (aA .i64 Q2) 3 false)∧Q2.length=N∧bS Q2∧bN la=bN Q2*D+R2∧R2<D∧SW h2 z2 (nW R2)∧mj p z2∧mm h0 z2
 | 0,v,h,Q,R,z,hv,hk,lQ,w,z0,yY,hR,aw,a0,E9,hg,hz,hoz,nz,x=>by
  have q1:=cI (0≤v)
  have ev:=pk (d+4) mh (a::b::rx x 2 4 ((AV.slice p 0 N N false)::z::(af v)::rx x 9 88 [])) h (.exit 0) h (CC<|VV (bV 3 false true .i64 v 0)<|BB q1<|ZZ) k!
  exact ⟨z,h,cT (Ev.out ev) k!,aw,a0,E9,Q,R,hg,lQ,w,yY,hR,hz,hoz,nz⟩
 | k+1,v,h,Q,R,z,hv',hk,lQ,w,z0,yY,hR,aw,a0,E9,hg,hz,hoz,nz,x=>by
  have hv:v=(k:Nat):=by omega
  have Mh:(nW D).length<2^27:=by omega
  have Q3:k<la.length:=by omega
  have hlR:=dD (Nat.le_of_lt hR)
  obtain ⟨R1,hR1⟩:∃R1,R1=la.getD k 0+1000000000*R:=⟨_,rfl⟩
  have h9:=wa.at k
  have htr:bR (la.getD k 0::nW R)=nW R1:=by
   rw[tX (bS.cons h9 (eS R)),bN,jo,←hR1]
  have hRD:R1<1000000000*D:=by
   have:=Nat.mul_le_mul_left 1000000000 (show R+1≤D from hR)
   omega
  have ann:(nW R1).length≤(nW D).length+1:=jS (by
   have:=Ux D
   rw[Nat.pow_succ,Nat.mul_comm]
   exact Nat.lt_of_lt_of_le hRD (Nat.mul_le_mul_left _ (Nat.le_of_lt this)))
  have XA:(nW R1).length<2^27:=by omega
  have ho:=Ly R1 D
  by_cases c:R1<D
  · have hc:iL (nW R1) (nW D)<0:=by
     rw[ho,if_neg o!,if_pos c];omega
    clear ho
    have q1:=dg (0≤v)
    obtain ⟨p2,q3,yX,vp⟩:=((ha.has a0)).j8 v (show k<la.length by (first | omega | (simp;omega)))
    obtain ⟨h6,uY,dh,wP,j9,gT⟩:=de aw (ar.cells [(ag (la.getD k 0))] 3 false)
    have dK:Kept p h h6:=gT.kept
    have gl:=j9
    obtain ⟨zz,h7,B8,eC,IA,ml,nzz,ozz⟩:=vh (tys:= #[30,30]) dh rfl rfl k! k! gl (hz.kept (dK) hoz) o!
    have eJ:Kept p h h7:=Kept.Cl dK ml aw o!
    obtain ⟨r1,kr1,Cm,or1⟩:=mR (d:=d+3) (h:=h7) nzz (by simp;omega)
    rw[htr] at Cm
    have QF:mm h r1:=mm.sub (fun q hq=>ozz q o!) or1
    have op1:mj p r1:=QF p E9
    have ko1:=om (d:=d+3) (h:=h7) Cm (hb.has (Has.ak a0 eJ y0 hp)) (Cm.small)
    have q8:=dg ((iL (nW R1) (nW D))<0)
    have w9:=fS (v - 1)
    have ev:=pk (d+4) mh (a::b::rx x 2 4 ((AV.slice p 0 N N false)::z::(af v)::rx x 9 88 [])) h .normal h7 (CC<|VV (bV 3 false true .i64 v 0)<|BB q1<|CN 2<|VV yX<|MM vp<|NN uY (fun i=>(AV.slice i 0 1 1 false))<|CC<|PP B8<|EE kr1<|CN 3<|EE ko1<|VV (bh 3 false true .i64 (iL (nW R1) (nW D)) 0)<|BB q8<|CC<|VV (bT 3 false true w9)<|CC<|ZZ) k!
    refine bp (tin:=fun x=>(a::b::rx x 2 4 ((AV.slice p 0 N N false)::r1::(af (v - 1))::rx x 9 88 []))) ev k! fun x=>rp (d:=d) y0 ha hb wa hD adB Df hN hp k (v - 1) h7 Q R1 r1 o! o! lQ w (fun j hj=>z0 j o!) ?_ c eC (Has.ak a0 eJ y0 hp) o! (ml _ _ o! (b6 aw uY hg)) Cm op1 (QF.mono o!) x
    rw[rn Q3,rn (show k<Q.length by omega),z0 k o!,bN,bN,yY,hR1,Nat.zero_add,Nat.mul_add,Nat.mul_assoc]
    omega
  · have hc:¬iL (nW R1) (nW D)<0:=by
     rw[ho];(repeat' split)<;>omega
    clear ho
    obtain ⟨q,hq⟩:∃q,q=R1/D:=⟨_,rfl⟩
    have hq9:q<1000000000:=by rw[hq];exact Nat.div_lt_of_lt_mul (by rw[Nat.mul_comm];exact hRD)
    have agQ:D*q≤R1:=by rw[hq];exact Nat.mul_div_le _ _
    have VP:R1 - D*q=R1%D:=by have:=Nat.div_add_mod R1 D;rw[←hq] at this;omega
    have adC:R1≠0:=by omega
    have htq:bR [q]=nW q:=by rw[tX (bS.one hq9)];simp [bN]
    have hlq:(nW q).length≤1:=jS (by simpa using hq9)
    have agR:R1%D<D:=Nat.mod_lt _ o!
    have aa7:∀j,j<k→(Q.set k q).getD j 0=0:=fun j hj=>by
     rw[List.getD_eq_getElem?_getD,List.getElem?_set,if_neg o!,←List.getD_eq_getElem?_getD];exact z0 j o!
    have vA:bN (la.drop k)=bN ((Q.set k q).drop k)*D+R1%D:=by
     rw[rn Q3,rn (show k<(Q.set k q).length by simp;omega),List.drop_set_of_lt o!,bN,bN,yY]
     rw[show (Q.set k q).getD k 0=q by rw[List.getD_eq_getElem?_getD,List.getElem?_set,if_pos rfl,if_pos o!];rfl]
     rw[←VP,Nat.add_mul,Nat.mul_add,Nat.mul_assoc,Nat.mul_comm q D]
     omega
    by_cases b1:(nW D).length=1
    · have eD:=yO (n:=D) o!
      have hD9:D<1000000000:=by have:=Ux D;rw[b1] at this;simpa using this
      obtain ⟨t1,t2⟩:=agP (n:=R1) (Nat.lt_trans hRD (Nat.mul_lt_mul_of_pos_left hD9 (by decide)))
      obtain ⟨x0,e0⟩:∃x0,(nW R1).getD 0 0=x0:=⟨_,rfl⟩
      obtain ⟨x1,e1⟩:∃x1,(nW R1).getD 1 0=x1:=⟨_,rfl⟩
      have b0:=(eS R1).at 0
      have b1':=(eS R1).at 1
      rw[e0,e1] at t1
      rw[e0] at b0
      rw[e1] at b1'
      have ano:0<(nW R1).length:=List.length_pos_iff.2 fun e=>adC (nM.1 e)
      by_cases l2:1<(nW R1).length
      · have el:(x0+x1*1000000000) /D=q:=by rw[hq,←t1]
        have q1:=dg (0≤v)
        obtain ⟨p2,q3,yX,vp⟩:=((ha.has a0)).j8 v (show k<la.length by (first | omega | (simp;omega)))
        obtain ⟨h6,uY,dh,wP,j9,gT⟩:=de aw (ar.cells [(ag (la.getD k 0))] 3 false)
        have dK:Kept p h h6:=gT.kept
        have gl:=j9
        obtain ⟨zz,h7,B8,eC,IA,ml,nzz,ozz⟩:=vh (tys:= #[30,30]) dh rfl rfl k! k! gl (hz.kept (dK) hoz) o!
        have eJ:Kept p h h7:=Kept.Cl dK ml aw o!
        obtain ⟨r1,kr1,Cm,or1⟩:=mR (d:=d+3) (h:=h7) nzz (by simp;omega)
        rw[htr] at Cm
        have QF:mm h r1:=mm.sub (fun q hq=>ozz q o!) or1
        have op1:mj p r1:=QF p E9
        have ko1:=om (d:=d+3) (h:=h7) Cm (hb.has (Has.ak a0 eJ y0 hp)) (Cm.small)
        have q8:=cI ((iL (nW R1) (nW D))<0)
        have q9:=dg ((((nW D).length:Nat):Int)=1)
        obtain ⟨C7,L0,Lm,zf⟩:=Cm.j8 0 (show 0<(nW R1).length by (first | omega | (simp;omega)))
        rw[e0] at zf
        have Ua:=dg (1<(((nW R1).length:Nat):Int))
        obtain ⟨p15,q16,He,vK⟩:=Cm.j8 1 (show 1<(nW R1).length by (first | omega | (simp;omega)))
        rw[e1] at vK
        have u19:=YB 3 false true x1 1000000000 o!
        have R6:=fX 3 false false x0 (x1*1000000000) o!
        obtain ⟨p21,q22,agi,V4⟩:=((hb.has (Has.ak a0 eJ y0 hp))).j8 0 (show 0<(nW D).length by (first | omega | (simp;omega)))
        rw[eD] at V4
        have u25:=Gr 3 false false (x0+(x1*1000000000)) D o! o!
        obtain ⟨p26,q27,agj,V5⟩:=((hb.has (Has.ak a0 eJ y0 hp))).j8 0 (show 0<(nW D).length by (first | omega | (simp;omega)))
        rw[eD] at V5
        have u30:=Gr 3 false false (x0+(x1*1000000000)) D o! o!
        obtain ⟨hi,⟨yi,xE⟩,Gi⟩:=rm (d:=d) (w0:=a) (w6:=(AV.slice p 0 N N false)) (w8:=AV.int .i64 v) hD hq Mh XA ((x0+(x1*1000000000)) /D) ((x0+(x1*1000000000)) /D) ((x0+(x1*1000000000)) /D) h7 o! o! o! o! eC (hb.has (Has.ak a0 eJ y0 hp)) Cm (fun k_=>((a::b::rx x 2 4 ((AV.slice p 0 N N false)::r1::(af v)::(ag ((x0+(x1*1000000000)) /D))::(ag ((x0+(x1*1000000000)) /D))::(ag (x0+(x1*1000000000)))::rx x 12 12 ((af v)::(aj (decide (0≤v)))::(x 26)::(x 27)::a::(af v)::(AV.ptr p2 q3)::(ag (la.getD k 0))::(AV.slice h.nx 0 1 1 false)::z::zz::r1::r1::b::(af (iL (nW R1) (nW D)))::(aj (decide ((iL (nW R1) (nW D))<0)))::b::(ag ((nW D).length))::(aj (decide ((((nW D).length:Nat):Int)=1)))::r1::(AV.ptr C7 L0)::(ag x0)::r1::(ag ((nW R1).length))::(aj (decide (1<(((nW R1).length:Nat):Int))))::(ag x0)::r1::(AV.ptr p15 q16)::(ag x1)::(ag (x1*1000000000))::(ag (x0+(x1*1000000000)))::(ag (x0+(x1*1000000000)))::b::(AV.ptr p21 q22)::(ag D)::(ag ((x0+(x1*1000000000)) /D))::(ag (x0+(x1*1000000000)))::b::(AV.ptr p26 q27)::(ag D)::(ag ((x0+(x1*1000000000)) /D))::rx x 65 32 []))):List AV).getD k_ aB)
        have Lz:=Gi.y
        have ajt:=Gi.n
        have SX:Kept p h hi:=eJ.trans Gi.a.kept
        have Cn:Has h7 hi:=Gi.a
        have amb:bq env (some (.slice 3)) (some (AV.slice p 0 N N false)) (some (af v))=some (AV.ptr p k):=cN k! (show k<N by (first | omega | (simp;omega))) o!
        obtain ⟨h32,Z5,aa8,aeR,aiE⟩:=Iz 3 k q Lz (Gi.a _ _ (ml _ _ o! (gT _ _ hg))) (show k<Q.length by (first | omega | (simp;omega)))
        have Z6:Kept p h h32:=SX.trans aa8.2.2
        have aa9:=(Cm.has Cn).chg aa8 op1
        obtain ⟨h33,ZO,ZP,aiu,ZQ,JB⟩:=de aeR (ar.cells [(ag q)] 3 false)
        have Ul:Kept p h h33:=Z6.trans JB.kept
        have Wj:Has h32 h33:=JB
        have gq:=ZQ
        obtain ⟨r2,kr2,nr2,or2⟩:=mR (d:=d+3) (h:=h33) (fi (op:=false) gq) (by simp)
        rw[htq] at nr2
        obtain ⟨zt,V6,aju,PH,QE,nwt⟩:=xG (d:=d+2) (h:=h33) (hb.has (Has.ak a0 Ul y0 hp)) nr2 (eS D) (eS q) o! ZP
        have G6:=PH.y
        have amR:=PH.n
        rw[jo,jo] at QE
        have G7:Kept p h V6:=Ul.trans PH.a.kept
        have Wk:=Wj.trans PH.a
        obtain ⟨zm,h35,ajv,UE,nzm,nwm⟩:=HD (d:=d+2) (h:=V6) (aa9.has Wk) QE adC agQ o! G6
        have ajw:=UE.y
        have amS:=UE.n
        rw[VP] at nzm
        have ajx:Kept p h h35:=G7.trans UE.a.kept
        have w36:=fS (v - 1)
        have ev:=pk (d+4) mh (a::b::rx x 2 4 ((AV.slice p 0 N N false)::z::(af v)::rx x 9 88 [])) h .normal h35 (CC<|VV (bV 3 false true .i64 v 0)<|BB q1<|CN 2<|VV yX<|MM vp<|NN uY (fun i=>(AV.slice i 0 1 1 false))<|CC<|PP B8<|EE kr1<|CN 3<|EE ko1<|VV (bh 3 false true .i64 (iL (nW R1) (nW D)) 0)<|BB q8<|CN 3<|VV ((hb.has (Has.ak a0 eJ y0 hp))).len<|VV (bQ 3 false true .i64 (((nW D).length:Nat):Int) 1)<|BB q9<|CC<|VV Lm<|MM zf<|CN 2<|VV (Cm).len<|VV (bM 3 false true .i64 (((nW R1).length:Nat):Int) 1)<|BB Ua<|CN 2<|VV He<|MM vK<|VV u19<|VV R6<|CN 3<|VV agi<|MM V4<|VV u25<|CN 2<|VV agj<|MM V5<|VV u30<|CN 2<|HH V4<|HH (show AV.same 20 (ag D) (ag D)=true from aP 19 _ _)<|HH V5<|HH (show AV.same 20 (ag D) (ag D)=true from aP 19 _ _)<|LL xE<|CN 3<|VV amb<|SS Z5<|CN 3<|NN ZO (fun i=>(AV.slice i 0 1 1 false))<|EE kr2<|EE aju<|EE ajv<|CN 2<|VV (bT 3 false true w36)<|CC<|ZZ) k!
        exact bp (tin:=fun x=>(a::b::rx x 2 4 ((AV.slice p 0 N N false)::zm::(af (v - 1))::rx x 9 88 []))) ev k! fun x=>rp (d:=d) y0 ha hb wa hD adB Df hN hp k (v - 1) h35 _ _ zm o! o! (by rw[List.length_set];exact lQ) (w.set hq9) aa7 vA agR ajw (Has.ak a0 ajx y0 hp) o! (UE.a _ _ (PH.a _ _ (JB _ _ aa8.2.1))) nzm (nwm p o!) (nwm.mono o!) x
      · have ex:x0=R1:=by rw[←e0];exact yO o!
        have el:x0/D=q:=by rw[hq,ex]
        have q1:=dg (0≤v)
        obtain ⟨p2,q3,yX,vp⟩:=((ha.has a0)).j8 v (show k<la.length by (first | omega | (simp;omega)))
        obtain ⟨h6,uY,dh,wP,j9,gT⟩:=de aw (ar.cells [(ag (la.getD k 0))] 3 false)
        have dK:Kept p h h6:=gT.kept
        have gl:=j9
        obtain ⟨zz,h7,B8,eC,IA,ml,nzz,ozz⟩:=vh (tys:= #[30,30]) dh rfl rfl k! k! gl (hz.kept (dK) hoz) o!
        have eJ:Kept p h h7:=Kept.Cl dK ml aw o!
        obtain ⟨r1,kr1,Cm,or1⟩:=mR (d:=d+3) (h:=h7) nzz (by simp;omega)
        rw[htr] at Cm
        have QF:mm h r1:=mm.sub (fun q hq=>ozz q o!) or1
        have op1:mj p r1:=QF p E9
        have ko1:=om (d:=d+3) (h:=h7) Cm (hb.has (Has.ak a0 eJ y0 hp)) (Cm.small)
        have q8:=cI ((iL (nW R1) (nW D))<0)
        have q9:=dg ((((nW D).length:Nat):Int)=1)
        obtain ⟨C7,L0,Lm,zf⟩:=Cm.j8 0 (show 0<(nW R1).length by (first | omega | (simp;omega)))
        rw[e0] at zf
        have Ua:=cI (1<(((nW R1).length:Nat):Int))
        obtain ⟨p15,q16,He,vK⟩:=((hb.has (Has.ak a0 eJ y0 hp))).j8 0 (show 0<(nW D).length by (first | omega | (simp;omega)))
        rw[eD] at vK
        have u19:=Gr 3 false false x0 D o! o!
        obtain ⟨p20,q21,agz,agS⟩:=((hb.has (Has.ak a0 eJ y0 hp))).j8 0 (show 0<(nW D).length by (first | omega | (simp;omega)))
        rw[eD] at agS
        have Zo:=Gr 3 false false x0 D o! o!
        obtain ⟨hi,⟨yi,xE⟩,Gi⟩:=rm (d:=d) (w0:=a) (w6:=(AV.slice p 0 N N false)) (w8:=AV.int .i64 v) hD hq Mh XA (x0/D) (x0/D) (x0/D) h7 o! o! o! o! eC (hb.has (Has.ak a0 eJ y0 hp)) Cm (fun k_=>((a::b::rx x 2 4 ((AV.slice p 0 N N false)::r1::(af v)::(ag (x0/D))::(ag (x0/D))::(ag x0)::rx x 12 12 ((af v)::(aj (decide (0≤v)))::(x 26)::(x 27)::a::(af v)::(AV.ptr p2 q3)::(ag (la.getD k 0))::(AV.slice h.nx 0 1 1 false)::z::zz::r1::r1::b::(af (iL (nW R1) (nW D)))::(aj (decide ((iL (nW R1) (nW D))<0)))::b::(ag ((nW D).length))::(aj (decide ((((nW D).length:Nat):Int)=1)))::r1::(AV.ptr C7 L0)::(ag x0)::r1::(ag ((nW R1).length))::(aj (decide (1<(((nW R1).length:Nat):Int))))::rx x 49 6 ((ag x0)::b::(AV.ptr p15 q16)::(ag D)::(ag (x0/D))::(ag x0)::b::(AV.ptr p20 q21)::(ag D)::(ag (x0/D))::rx x 65 32 [])))):List AV).getD k_ aB)
        have Lz:=Gi.y
        have ajt:=Gi.n
        have SX:Kept p h hi:=eJ.trans Gi.a.kept
        have Cn:Has h7 hi:=Gi.a
        have amc:bq env (some (.slice 3)) (some (AV.slice p 0 N N false)) (some (af v))=some (AV.ptr p k):=cN k! (show k<N by (first | omega | (simp;omega))) o!
        obtain ⟨h26,Z9,aba,JA,aeO⟩:=Iz 3 k q Lz (Gi.a _ _ (ml _ _ o! (gT _ _ hg))) (show k<Q.length by (first | omega | (simp;omega)))
        have B0:Kept p h h26:=SX.trans aba.2.2
        have aa9:=(Cm.has Cn).chg aba op1
        obtain ⟨h27,ajy,ajz,amT,ajA,abb⟩:=de JA (ar.cells [(ag q)] 3 false)
        have afg:Kept p h h27:=B0.trans abb.kept
        have Wl:Has h26 h27:=abb
        have gq:=ajA
        obtain ⟨r2,kr2,nr2,or2⟩:=mR (d:=d+3) (h:=h27) (fi (op:=false) gq) (by simp)
        rw[htq] at nr2
        obtain ⟨zt,Qq,ajB,PI,QE,nwt⟩:=xG (d:=d+2) (h:=h27) (hb.has (Has.ak a0 afg y0 hp)) nr2 (eS D) (eS q) o! ajz
        have xe:=PI.y
        have amU:=PI.n
        rw[jo,jo] at QE
        have xf:Kept p h Qq:=afg.trans PI.a.kept
        have Wm:=Wl.trans PI.a
        obtain ⟨zm,ZJ,ZK,UF,nzm,nwm⟩:=HD (d:=d+2) (h:=Qq) (aa9.has Wm) QE adC agQ o! xe
        have O2:=UF.y
        have amV:=UF.n
        rw[VP] at nzm
        have O3:Kept p h ZJ:=xf.trans UF.a.kept
        have w30:=fS (v - 1)
        have ev:=pk (d+4) mh (a::b::rx x 2 4 ((AV.slice p 0 N N false)::z::(af v)::rx x 9 88 [])) h .normal ZJ (CC<|VV (bV 3 false true .i64 v 0)<|BB q1<|CN 2<|VV yX<|MM vp<|NN uY (fun i=>(AV.slice i 0 1 1 false))<|CC<|PP B8<|EE kr1<|CN 3<|EE ko1<|VV (bh 3 false true .i64 (iL (nW R1) (nW D)) 0)<|BB q8<|CN 3<|VV ((hb.has (Has.ak a0 eJ y0 hp))).len<|VV (bQ 3 false true .i64 (((nW D).length:Nat):Int) 1)<|BB q9<|CC<|VV Lm<|MM zf<|CN 2<|VV (Cm).len<|VV (bM 3 false true .i64 (((nW R1).length:Nat):Int) 1)<|BB Ua<|CN 2<|VV He<|MM vK<|VV u19<|CN 2<|VV agz<|MM agS<|VV Zo<|CN 2<|HH vK<|HH (show AV.same 20 (ag D) (ag D)=true from aP 19 _ _)<|HH agS<|HH (show AV.same 20 (ag D) (ag D)=true from aP 19 _ _)<|LL xE<|CN 3<|VV amc<|SS Z9<|CN 3<|NN ajy (fun i=>(AV.slice i 0 1 1 false))<|EE kr2<|EE ajB<|EE ZK<|CN 2<|VV (bT 3 false true w30)<|CC<|ZZ) k!
        exact bp (tin:=fun x=>(a::b::rx x 2 4 ((AV.slice p 0 N N false)::zm::(af (v - 1))::rx x 9 88 []))) ev k! fun x=>rp (d:=d) y0 ha hb wa hD adB Df hN hp k (v - 1) ZJ _ _ zm o! o! (by rw[List.length_set];exact lQ) (w.set hq9) aa7 vA agR O2 (Has.ak a0 O3 y0 hp) o! (UF.a _ _ (PI.a _ _ (abb _ _ aba.2.1))) nzm (nwm p o!) (nwm.mono o!) x
    · have q1:=dg (0≤v)
      obtain ⟨p2,q3,yX,vp⟩:=((ha.has a0)).j8 v (show k<la.length by (first | omega | (simp;omega)))
      obtain ⟨h6,uY,dh,wP,j9,gT⟩:=de aw (ar.cells [(ag (la.getD k 0))] 3 false)
      have dK:Kept p h h6:=gT.kept
      have gl:=j9
      obtain ⟨zz,h7,B8,eC,IA,ml,nzz,ozz⟩:=vh (tys:= #[30,30]) dh rfl rfl k! k! gl (hz.kept (dK) hoz) o!
      have eJ:Kept p h h7:=Kept.Cl dK ml aw o!
      obtain ⟨r1,kr1,Cm,or1⟩:=mR (d:=d+3) (h:=h7) nzz (by simp;omega)
      rw[htr] at Cm
      have QF:mm h r1:=mm.sub (fun q hq=>ozz q o!) or1
      have op1:mj p r1:=QF p E9
      have ko1:=om (d:=d+3) (h:=h7) Cm (hb.has (Has.ak a0 eJ y0 hp)) (Cm.small)
      have q8:=cI ((iL (nW R1) (nW D))<0)
      have q9:=cI ((((nW D).length:Nat):Int)=1)
      obtain ⟨hi,⟨yi,xE⟩,Gi⟩:=rm (d:=d) (w0:=a) (w6:=(AV.slice p 0 N N false)) (w8:=AV.int .i64 v) hD hq Mh XA 999999999 0 999999999 h7 o! o! o! o! eC (hb.has (Has.ak a0 eJ y0 hp)) Cm (fun k_=>((a::b::rx x 2 4 ((AV.slice p 0 N N false)::r1::(af v)::(af 0)::(af 999999999)::rx x 11 13 ((af v)::(aj (decide (0≤v)))::(x 26)::(x 27)::a::(af v)::(AV.ptr p2 q3)::(ag (la.getD k 0))::(AV.slice h.nx 0 1 1 false)::z::zz::r1::r1::b::(af (iL (nW R1) (nW D)))::(aj (decide ((iL (nW R1) (nW D))<0)))::b::(ag ((nW D).length))::(aj (decide ((((nW D).length:Nat):Int)=1)))::rx x 43 54 []))):List AV).getD k_ aB)
      have Lz:=Gi.y
      have ajt:=Gi.n
      have SX:Kept p h hi:=eJ.trans Gi.a.kept
      have Cn:Has h7 hi:=Gi.a
      have agr:bq env (some (.slice 3)) (some (AV.slice p 0 N N false)) (some (af v))=some (AV.ptr p k):=cN k! (show k<N by (first | omega | (simp;omega))) o!
      obtain ⟨ki,tL,G3,cS,xa⟩:=Iz 3 k q Lz (Gi.a _ _ (ml _ _ o! (gT _ _ hg))) (show k<Q.length by (first | omega | (simp;omega)))
      have cP:Kept p h ki:=SX.trans G3.2.2
      have aa9:=(Cm.has Cn).chg G3 op1
      obtain ⟨sZ,HL,dH,vr,gS,mg⟩:=de cS (ar.cells [(ag q)] 3 false)
      have dV:Kept p h sZ:=cP.trans mg.kept
      have jh:Has ki sZ:=mg
      have gq:=gS
      obtain ⟨r2,kr2,nr2,or2⟩:=mR (d:=d+3) (h:=sZ) (fi (op:=false) gq) (by simp)
      rw[htq] at nr2
      obtain ⟨zt,tG,lU,di,QE,nwt⟩:=xG (d:=d+2) (h:=sZ) (hb.has (Has.ak a0 dV y0 hp)) nr2 (eS D) (eS q) o! dH
      have fl:=di.y
      have Er:=di.n
      rw[jo,jo] at QE
      have gu:Kept p h tG:=dV.trans di.a.kept
      have f':=jh.trans di.a
      obtain ⟨zm,pP,tQ,kK,nzm,nwm⟩:=HD (d:=d+2) (h:=tG) (aa9.has f') QE adC agQ o! fl
      have dS:=kK.y
      have abc:=kK.n
      rw[VP] at nzm
      have fm:Kept p h pP:=gu.trans kK.a.kept
      have w15:=fS (v - 1)
      have ev:=pk (d+4) mh (a::b::rx x 2 4 ((AV.slice p 0 N N false)::z::(af v)::rx x 9 88 [])) h .normal pP (CC<|VV (bV 3 false true .i64 v 0)<|BB q1<|CN 2<|VV yX<|MM vp<|NN uY (fun i=>(AV.slice i 0 1 1 false))<|CC<|PP B8<|EE kr1<|CN 3<|EE ko1<|VV (bh 3 false true .i64 (iL (nW R1) (nW D)) 0)<|BB q8<|CN 3<|VV ((hb.has (Has.ak a0 eJ y0 hp))).len<|VV (bQ 3 false true .i64 (((nW D).length:Nat):Int) 1)<|BB q9<|LL xE<|CN 3<|VV agr<|SS tL<|CN 3<|NN HL (fun i=>(AV.slice i 0 1 1 false))<|EE kr2<|EE lU<|EE tQ<|CN 2<|VV (bT 3 false true w15)<|CC<|ZZ) k!
      exact bp (tin:=fun x=>(a::b::rx x 2 4 ((AV.slice p 0 N N false)::zm::(af (v - 1))::rx x 9 88 []))) ev k! fun x=>rp (d:=d) y0 ha hb wa hD adB Df hN hp k (v - 1) pP _ _ zm o! o! (by rw[List.length_set];exact lQ) (w.set hq9) aa7 vA agR dS (Has.ak a0 fm y0 hp) o! (kK.a _ _ (di.a _ _ (mg _ _ G3.2.1))) nzm (nwm p o!) (nwm.mono o!) x
theorem HO {n:Nat} {x y:AV} (h:AV.within n 20 (.tuple [x,y])=true):AV.within n 20 x=true∧AV.within n 20 y=true:=by
 rw[AV.within] at h
 simp only[List.all_cons,List.all_nil,Bool.and_true,Bool.and_eq_true] at h
 exact ⟨me 19 h.1,me 19 h.2⟩
theorem tY {d:Nat} {h:ah} {a b:AV} {A D:Nat} (ha:SW h a (nW A)) (hb:SW h b (nW D)) (hD:D≠0) (Df:(nW A).length<2^26) (Mh:(nW D).length<2^26) (aw:Tidy h):∃q r hk,aQ (d+5) (.fn 54) [a,b] h= .ret (.tuple [q,r]) hk∧Grow h hk∧SW hk q (nW (A/D))∧SW hk r (nW (A%D))∧mm h q∧(r=a∨mm h r):=by
 have ho:=Ly A D
 by_cases c:A<D
 · have hc:iL (nW A) (nW D)<0:=by rw[ho,if_neg o!,if_pos c];omega
   clear ho
   have q1:=dg ((iL (nW A) (nW D))<0)
   have ev:=pk (d+4) mU (a::b::aV 95) h .ret h (CN 4<|EE (show (aQ (d+4)) (.fn 90) [a,b] h= .ret (af (iL (nW A) (nW D))) h from (om (d:=d+3) (h:=h) ha hb ha.small))<|VV (bh 3 false true .i64 (iL (nW A) (nW D)) 0)<|BB q1<|CN 3<|ZZ) k!
   have nq:SW h .ax (nW (A/D)):=by rw[Nat.div_eq_of_lt c,eO];exact ao.nil k! k!
   have nr:SW h a (nW (A%D)):=by rw[Nat.mod_eq_of_lt c];exact ha
   obtain ⟨hk,k1,k2,k3⟩:=aU (v:= .tuple [.ax,a]) rfl (az Tryz.func54 JT k! (.inr rfl) ev k!) aw (Grow.refl aw) (P:=fun hh=>SW hh .ax (nW (A/D))∧SW hh a (nW (A%D))) ⟨nq,nr⟩ fun _=>⟨nq,nr⟩
   exact ⟨_,_,hk,k1,k2,k3.1,k3.2,mm.nil,.inl rfl⟩
 · have hc:¬iL (nW A) (nW D)<0:=by
    rw[ho];(repeat' split)<;>omega
   clear ho
   have oC:0<(nW A).length:=List.length_pos_iff.2 fun e=>by have:=nM.1 e;omega
   have q1:=cI ((iL (nW A) (nW D))<0)
   have mk2:qm env (some (.slice 3)) (some (ag ((nW A).length))) (some (ag ((nW A).length)))=some (ar.cells (aS [(af 0)] ((nW A).length)) 3 false,fun i=>AV.slice i 0 ((nW A).length) ((nW A).length) false):=gH (bytes:=8) (z:=(af 0)) k! k! k! rfl (by decide) o!
   obtain ⟨h3,gn,bt,ky,eb,bC⟩:=de aw (ar.cells (aS [(af 0)] ((nW A).length)) 3 false)
   have aX:Has h h3:=bC
   have ajk:=eb
   rw[c_] at eb
   have u4:=KQ 3 false true ((nW A).length) 1 o! o!
   have ajC:h3.get h.nx=some (.cells (aA .i64 (List.replicate (nW A).length 0)) 3 false):=eb
   obtain ⟨z2,hl,⟨yl,cf⟩,np,qT,SD,Q2,R2,SG,l2,w2,v2,r2,xI,W3,nw2⟩:=rp (d:=d) (h0:=h) (p:=h.nx) (N:=(nW A).length) aw ha hb (eS A) hD Mh Df rfl (Nat.le_refl _) (nW A).length ((((nW A).length) - 1:Nat):Int) h3 (List.replicate (nW A).length 0) 0 .ax o! (Nat.le_refl _) (by simp) (bS.rep _) (fun j _=>adA _ _) (by simp [bN]) o! bt aX o! ajC (by rw[eO];exact ao.nil k! k!) (fun _ _ _ _ e=>by cases e) mm.nil (fun k_=>((a::b::aB::aB::bE::bE::(AV.slice h.nx 0 ((nW A).length) ((nW A).length) false)::bE::(ag (((nW A).length) - 1))::aB::aB::aB::aB::a::b::(af (iL (nW A) (nW D)))::(aj (decide ((iL (nW A) (nW D))<0)))::aB::a::(ag ((nW A).length))::(AV.slice h.nx 0 ((nW A).length) ((nW A).length) false)::a::(ag ((nW A).length))::(ag (((nW A).length) - 1))::aV 73):List AV).getD k_ aB)
   obtain ⟨r3,kr3,nr3,or3⟩:=mR (d:=d+3) (h:=hl) (SW.T2 SG l2 o!) o!
   have ev:=pk (d+4) mU (a::b::aV 95) h .ret hl (CN 4<|EE (show (aQ (d+4)) (.fn 90) [a,b] h= .ret (af (iL (nW A) (nW D))) h from (om (d:=d+3) (h:=h) ha hb ha.small))<|VV (bh 3 false true .i64 (iL (nW A) (nW D)) 0)<|BB q1<|CC<|VV (ha).len<|KK mk2 gn<|CN 3<|VV (ha).len<|VV u4<|CC<|LL cf<|CC<|EE kr3<|CN 3<|ZZ) k!
   rw[jo] at v2
   obtain ⟨eq,er⟩:=(Nat.div_mod_unique (show 0<D by omega)).2 ⟨(by rw[Nat.mul_comm,v2];omega:R2+D*bN Q2=A),r2⟩
   rw[tX w2,←eq] at nr3
   rw[←er] at xI
   have nwq:mm h r3:=mm.sub (mm.slice (Nat.le_refl _)) or3
   obtain ⟨hk,k1,k2,k3⟩:=aU (v:= .tuple [r3,z2]) rfl (az Tryz.func54 JT k! (.inr rfl) ev k!) aw ⟨np,qT,by omega⟩ (P:=fun hh=>SW hh r3 (nW (A/D))∧SW hh z2 (nW (A%D))) ⟨nr3,xI⟩ fun v=>⟨SW.back nr3 nwq (HO v).1,SW.back xI nw2 (HO v).2⟩
   exact ⟨_,_,hk,k1,k2,k3.1,k3.2,nwq,.inr nw2⟩
noncomputable def vi:Code:=(Tryz.f53.body).getD .skip
theorem Wn:Tryz.f53.body=some vi:=by kernel_rfl
noncomputable def sx:Code:=(aY vi).getD 0 .skip
theorem abd {k:IntKind} {l m:List Nat} (h:aA k l=aA k m):l=m:=by
 induction l generalizing m with
 | nil=>cases m with
  | nil=>rfl
  | cons b m=>cases h
 | cons a l ih=>cases m with
  | nil=>cases h
  | cons b m=>
   simp only[aA,List.map_cons,List.cons.injEq,AV.int.injEq,true_and] at h
   rw[ih h.2,show a=b by omega]
theorem SW.same {h h':ah} {z:AV} {l m:List Nat} (x:SW h z l) (a:Has h h') (y:SW h' z m):SW h z m:=by
 have x':=x.has a
 have hl:l.length=m.length:=Option.some.inj (x'.rI.symm.trans y.rI)
 have hf:=x'.first
 rw[hl] at hf
 rw[←abd (Option.some.inj (hf.symm.trans y.first))]
 exact x
theorem LD {d:Nat}:∀(n B A:Nat) (h:ah) (a b:AV),B≤n→SW h a (nW A)→SW h b (nW B)→(nW A).length<2^26→(nW B).length<2^26→Tidy h→∀x:Nat→AV,
 ∃(z:AV) (h2:ah),(∃y:Nat→AV,Ev env (aQ (d+5)) (.loop sx) ⟨(a::b::rx x 2 17 []),h,[],.no⟩ (.exit 0) ⟨(z::rx y 1 18 []),h2,[],.no⟩)∧Grow h h2∧SW h2 z (nW (Nat.gcd A B))∧(z=a∨z=b∨mm h z):=by
 intro n
 induction n with
 | zero=>
  intro B A h a b hn ha hb Df Xa aw x
  have Xb:(nW B).length=0:=by rw[show B=0 by omega,eO];rfl
  have q1:=cI (0<(((nW B).length:Nat):Int))
  have ev:=pk (d+5) sx (a::b::rx x 2 17 []) h (.exit 0) h (CC<|VV (hb).len<|VV (bM 3 false true .i64 (((nW B).length:Nat):Int) 0)<|BB q1<|ZZ) k!
  exact ⟨a,h,cT (Ev.out ev) k!,Grow.refl aw,by rw[show B=0 by omega,Nat.gcd_zero_right];exact ha,.inl rfl⟩
 | succ n ih=>
  intro B A h a b hn ha hb Df Xa aw x
  by_cases q0:B=0
  · have Xb:(nW B).length=0:=by rw[q0,eO];rfl
    have q1:=cI (0<(((nW B).length:Nat):Int))
    have ev:=pk (d+5) sx (a::b::rx x 2 17 []) h (.exit 0) h (CC<|VV (hb).len<|VV (bM 3 false true .i64 (((nW B).length:Nat):Int) 0)<|BB q1<|ZZ) k!
    exact ⟨a,h,cT (Ev.out ev) k!,Grow.refl aw,by rw[q0,Nat.gcd_zero_right];exact ha,.inl rfl⟩
  · have Xb:=q0
    have hBl:0<(nW B).length:=List.length_pos_iff.2 fun e=>q0 (nM.1 e)
    have gL:A%B<B:=Nat.mod_lt _ o!
    have Ip:=dD (Nat.le_of_lt gL)
    have q1:=dg (0<(((nW B).length:Nat):Int))
    obtain ⟨q,r,h2,Y_,agT,nq,nr,nwq,sr⟩:=tY (d:=d) (h:=h) ha hb Xb Df Xa aw
    have bP:=agT.y
    have amd:=agT.n
    have b7:=agT.a
    have ev:=pk (d+5) sx (a::b::rx x 2 17 []) h .normal h2 (CC<|VV (hb).len<|VV (bM 3 false true .i64 (((nW B).length:Nat):Int) 0)<|BB q1<|CN 2<|EE Y_<|CN 9<|ZZ) k!
    obtain ⟨z,h2,h3,h4,h5,h6⟩:=bp (tin:=fun x=>(b::r::rx x 2 17 [])) ev k! fun x=>ih (A%B) B h2 b r o! (hb.has b7) nr Xa o! bP x
    refine ⟨z,h2,h3,(Grow.mk bP b7 o!).trans h4,?_,?_⟩
    · rw[Nat.gcd_comm,Nat.gcd_rec,Nat.gcd_comm];exact h5
    · rcases h6 with rfl | rfl | h6
      · exact .inr (.inl rfl)
      · rcases sr with rfl | sr
        · exact .inl rfl
        · exact .inr (.inr sr)
      · exact .inr (.inr (h6.mono o!))
theorem DB {d:Nat} {h:ah} {a b:AV} {A B:Nat} (ha:SW h a (nW A)) (hb:SW h b (nW B)) (Df:(nW A).length<2^26) (Xa:(nW B).length<2^26) (aw:Tidy h):∃z hk,aQ (d+6) (.fn 53) [a,b] h= .ret z hk∧Grow h hk∧SW hk z (nW (Nat.gcd A B)):=by
 obtain ⟨z,hl,⟨yl,cf⟩,Gl,nz,sz⟩:=LD (d:=d) B B A h a b (Nat.le_refl _) ha hb Df Xa aw (fun k_=>((a::b::aB::aB::bE::aV 14):List AV).getD k_ aB)
 have ev:=pk (d+5) vi (a::b::aV 17) h .ret hl (CC<|LL cf<|CN 2<|ZZ) k!
 obtain ⟨hk,k1,k2,k3⟩:=aU (v:=z) rfl (az Tryz.func53 Wn k! (.inr rfl) ev k!) aw Gl (P:=fun hh=>SW hh z (nW (Nat.gcd A B))) nz fun v=>by
  rcases sz with rfl | rfl | sz
  · exact SW.same ha Gl.a nz
  · exact SW.same hb Gl.a nz
  · exact SW.back nz sz v
 exact ⟨z,hk,k1,k2,k3⟩
noncomputable def mV:Code:=(Tryz.f28.body).getD .skip
theorem yP:Tryz.f28.body=some mV:=by kernel_rfl
theorem yQ {ng:Bool} {a b:AV} (ka:a= .ax∨∃p o n c b',a= .slice p o n c b'∧(b'=true→0<c)) (kb:b= .ax∨∃p o n c b',b= .slice p o n c b'∧(b'=true→0<c)):sF env 32 [(0,.bool ng),(1,a),(2,b)]=some (.agg [.bool ng,a,b]):=by
 rcases ka with rfl | ⟨p,o,n,c,b1,rfl,_⟩<;>rcases kb with rfl | ⟨p',o',n',c',b2,rfl,_⟩<;>kernel_rfl
theorem ao.tZ {h:ah} {k:IntKind} {e:TypeId} {z:AV} {l:List Nat} (x:ao env h k e z l):AV.scalar z=true:=by
 rcases x.known with rfl | ⟨p,o,n,c,b,rfl,_⟩<;>rfl
theorem vj {n:Nat} {w x y:AV} (h:AV.within n 20 (.agg [w,x,y])=true):AV.within n 20 x=true∧AV.within n 20 y=true:=by
 rw[AV.within] at h
 simp only[List.all_cons,List.all_nil,Bool.and_true,Bool.and_eq_true] at h
 exact ⟨me 19 h.2.1,me 19 h.2.2⟩
theorem t_ {d:Nat} {f:FuncId} {args:List AV} {h h':ah} {ng:Bool} {z1 z2:AV} {l m:List Nat} (hm:M0 f args h=none) (hd:mz env (aQ d) f args h (.agg [.bool ng,z1,z2]) h') (y:Tidy h) (g:Grow h h') (n1:SW h' z1 l) (n2:SW h' z2 m) (s1:(∃l',SW h z1 l')∨mm h z1) (s2:(∃l',SW h z2 l')∨mm h z2):
 ∃hk,aQ (d+1) (.fn f) args h= .ret (.agg [.bool ng,z1,z2]) hk∧Grow h hk∧SW hk z1 l∧SW hk z2 m:=
 aU hm hd y g (P:=fun hh=>SW hh z1 l∧SW hh z2 m) ⟨n1,n2⟩ fun v=>by
  obtain ⟨v1,v2⟩:=vj v
  refine ⟨?_,?_⟩
  · rcases s1 with ⟨l',s⟩ | s
    · exact SW.same s g.a n1
    · exact SW.back n1 s v1
  · rcases s2 with ⟨l',s⟩ | s
    · exact SW.same s g.a n2
    · exact SW.back n2 s v2
theorem ji {d:Nat} {h:ah} {a b:AV} {ng:Bool} {A B:Nat} (ha:SW h a (nW A)) (hb:SW h b (nW B)) (hB:B≠0) (Df:(nW A).length<2^26) (Xa:(nW B).length<2^26) (aw:Tidy h):
 ∃z1 z2 hk,aQ (d+7) (.fn 28) [.bool ng,a,b] h= .ret (.agg [.bool (ng&&decide (A≠0)),z1,z2]) hk∧Grow h hk∧SW hk z1 (nW (A/Nat.gcd A B))∧SW hk z2 (nW (B/Nat.gcd A B))∧(z1=a∨mm h z1)∧(z2=b∨mm h z2):=by
 have sca:=ao.tZ ha
 have scb:=ao.tZ hb
 by_cases q0:A=0
 · have oC:(nW A).length=0:=by rw[q0,eO];rfl
   obtain ⟨h1,aO,aK,bm,aC,ck⟩:=de aw (ar.cells [(aj false),bE,bE] 32 false)
   have aD:Has h h1:=ck
   have q2:=dg ((((nW A).length:Nat):Int)=0)
   obtain ⟨h3,gn,bt,ky,eb,bC⟩:=de aK (ar.cells [(af 1)] 3 false)
   have aX:=aD.trans bC
   obtain ⟨h4,xi,gk,wL,jH,PD⟩:=b9 (t:=32) (n:=3) (i:=h.nx) (L:=[(aj false),bE,(AV.slice h1.nx 0 1 1 false)]) bt (bC _ _ aC) k! rfl rfl z!
   have iy:=Has.ak aX PD aw o!
   have ev:=pk (d+6) mV ((aj ng)::a::b::aV 46) h .ret h4 (NN aO (fun i=>(AV.ptr i 0))<|CC<|VV ((ha.has aD)).len<|VV (bQ 3 false true .i64 (((nW A).length:Nat):Int) 0)<|BB q2<|NN gn (fun i=>(AV.slice i 0 1 1 false))<|CC<|SS xi<|ZZ) k!
   have e1:A/Nat.gcd A B=0:=by rw[q0];exact Nat.zero_div _
   have e2:B/Nat.gcd A B=1:=by rw[q0,Nat.gcd_zero_left];exact Nat.div_self o!
   have n1:SW h4 .ax (nW 0):=by rw[eO];exact ao.nil k! k!
   have n2:SW h4 (.slice h1.nx 0 1 1 false) (nW 1):=by rw[mS (by decide) (by decide)];exact fi (op:=false) (PD _ _ o! eb)
   rw[e1,e2,show (ng&&decide (A≠0))=false by simp [q0]]
   obtain ⟨hk,k1,k2,k3,k4⟩:=t_ rfl (bn (a:=6) (t:=32) Tryz.func28 yP k! (.inr rfl) ev k! (aN jH k!)) aw ⟨gk,iy,by omega⟩ n1 n2 (.inr mm.nil) (.inr (mm.slice o!))
   exact ⟨_,_,hk,k1,k2,k3,k4,.inr mm.nil,.inr (mm.slice o!)⟩
 · have oC:(nW A).length≠0:=fun e=>q0 (nM.1 (List.length_eq_zero_iff.1 e))
   have e0:(ng&&decide (A≠0))=ng:=by simp [q0]
   obtain ⟨G,hG⟩:∃G,G=Nat.gcd A B:=⟨_,rfl⟩
   have hG0:G≠0:=by rw[hG];exact fun e=>q0 (Nat.gcd_eq_zero_iff.1 e).1
   have hlg:(nW G).length<2^26:=Nat.lt_of_le_of_lt (dD (by rw[hG];exact Nat.gcd_le_right _ o!)) Xa
   rw[e0,←hG]
   by_cases q1:(nW G).length=1
   · have eG:=yO (n:=G) o!
     by_cases cG:G=1
     · obtain ⟨h1,aO,aK,bm,aC,ck⟩:=de aw (ar.cells [(aj false),bE,bE] 32 false)
       have aD:Has h h1:=ck
       have q2:=cI ((((nW A).length:Nat):Int)=0)
       obtain ⟨zg,h3,pA,fZ,UG⟩:=DB (d:=d) (h:=h1) (ha.has aD) (hb.has aD) Df Xa aK
       have bt:=fZ.y
       have uL:=fZ.n
       rw[←hG] at UG
       have aX:=aD.trans fZ.a
       have q4:=dg ((((nW G).length:Nat):Int)=1)
       obtain ⟨p5,q6,N5,Jw⟩:=UG.j8 0 (show 0<(nW G).length by omega)
       rw[eG] at Jw
       have q9:=dg ((G:Int)=1)
       have ame:sF env 32 [(0,(aj ng)),(1,a),(2,b)]=some (AV.agg [(aj ng),a,b]):=yQ ha.known hb.known
       have adb:AV.scalar a=true:=sca
       have aah:AV.scalar b=true:=scb
       obtain ⟨ki,tL,cS,xa,iD,g8⟩:=b9 (t:=32) (n:=3) (i:=h.nx) (L:=[(aj ng),a,b]) bt (fZ.a _ _ aC) k! rfl rfl z!
       have cP:=Has.ak aX g8 aw o!
       have ev:=pk (d+6) mV ((aj ng)::a::b::aV 46) h .ret ki (NN aO (fun i=>(AV.ptr i 0))<|CC<|VV ((ha.has aD)).len<|VV (bQ 3 false true .i64 (((nW A).length:Nat):Int) 0)<|BB q2<|CN 2<|EE pA<|CN 2<|VV (UG).len<|VV (bQ 3 false true .i64 (((nW G).length:Nat):Int) 1)<|CC<|BB q4<|CC<|BB q4<|VV N5<|BB q4<|MM Jw<|BB q4<|VV (bQ 3 false true .i64 (G:Int) 1)<|VV (aG (a:=some (aj (decide ((G:Int)=1)))) (b:=some (aj false)) q4)<|BB q9<|CN 3<|QQ ame<|SS tL<|ZZ) k!
       obtain ⟨hk,k1,k2,k3,k4⟩:=t_ rfl (bn (a:=6) (t:=32) Tryz.func28 yP k! (.inr rfl) ev k! (aN iD k!)) aw ⟨cS,cP,by omega⟩ (ha.has cP) (hb.has cP) (.inl ⟨_,ha⟩) (.inl ⟨_,hb⟩)
       exact ⟨_,_,hk,k1,k2,by rw[cG,Nat.div_one];exact k3,by rw[cG,Nat.div_one];exact k4,.inl rfl,.inl rfl⟩
     · obtain ⟨h1,aO,aK,bm,aC,ck⟩:=de aw (ar.cells [(aj false),bE,bE] 32 false)
       have aD:Has h h1:=ck
       have q2:=cI ((((nW A).length:Nat):Int)=0)
       obtain ⟨zg,h3,pA,fZ,UG⟩:=DB (d:=d) (h:=h1) (ha.has aD) (hb.has aD) Df Xa aK
       have bt:=fZ.y
       have uL:=fZ.n
       rw[←hG] at UG
       have aX:=aD.trans fZ.a
       have q4:=dg ((((nW G).length:Nat):Int)=1)
       obtain ⟨p5,q6,N5,Jw⟩:=UG.j8 0 (show 0<(nW G).length by omega)
       rw[eG] at Jw
       have q9:=cI ((G:Int)=1)
       obtain ⟨zq1,zr1,lx,oh,cJ,nq1,Cm,QF,sr1⟩:=tY (d:=d+1) (h:=h3) (ha.has aX) UG hG0 Df hlg bt
       have dE:=cJ.y
       have Ep:=cJ.n
       have dm:=aX.trans cJ.a
       have abe:=cJ.a
       obtain ⟨zq2,zr2,ki,j0,cu,nq2,nr2,nw2,sr2⟩:=tY (d:=d+1) (h:=lx) (hb.has dm) (UG.has abe) hG0 Xa hlg dE
       have cS:=cu.y
       have B7:=cu.n
       have cP:=dm.trans cu.a
       have nP:=cu.a
       have nP:=cu.a
       have amf:sF env 32 [(0,(aj ng)),(1,zq1),(2,zq2)]=some (AV.agg [(aj ng),zq1,zq2]):=yQ nq1.known nq2.known
       have adz:AV.scalar zq1=true:=(ao.tZ nq1)
       have V9:AV.scalar zq2=true:=(ao.tZ nq2)
       obtain ⟨tG,oe,fl,Ei,kJ,eh⟩:=b9 (t:=32) (n:=3) (i:=h.nx) (L:=[(aj ng),zq1,zq2]) cS (cu.a _ _ (cJ.a _ _ (fZ.a _ _ aC))) k! rfl rfl z!
       have gu:=Has.ak cP eh aw o!
       have ev:=pk (d+6) mV ((aj ng)::a::b::aV 46) h .ret tG (NN aO (fun i=>(AV.ptr i 0))<|CC<|VV ((ha.has aD)).len<|VV (bQ 3 false true .i64 (((nW A).length:Nat):Int) 0)<|BB q2<|CN 2<|EE pA<|CN 2<|VV (UG).len<|VV (bQ 3 false true .i64 (((nW G).length:Nat):Int) 1)<|CC<|BB q4<|CC<|BB q4<|VV N5<|BB q4<|MM Jw<|BB q4<|VV (bQ 3 false true .i64 (G:Int) 1)<|VV (aG (a:=some (aj (decide ((G:Int)=1)))) (b:=some (aj false)) q4)<|BB q9<|CN 2<|EE oh<|CN 7<|EE j0<|CN 8<|QQ amf<|SS oe<|ZZ) k!
       obtain ⟨hk,k1,k2,k3,k4⟩:=t_ rfl (bn (a:=6) (t:=32) Tryz.func28 yP k! (.inr rfl) ev k! (aN kJ k!)) aw ⟨fl,gu,by omega⟩ ((nq1.has nP).kept eh (QF _ o!)) (nq2.kept eh (nw2 _ o!)) (.inr (QF.mono o!)) (.inr (nw2.mono o!))
       exact ⟨_,_,hk,k1,k2,k3,k4,.inr (QF.mono o!),.inr (nw2.mono o!)⟩
   · obtain ⟨h1,aO,aK,bm,aC,ck⟩:=de aw (ar.cells [(aj false),bE,bE] 32 false)
     have aD:Has h h1:=ck
     have q2:=cI ((((nW A).length:Nat):Int)=0)
     obtain ⟨zg,h3,pA,fZ,UG⟩:=DB (d:=d) (h:=h1) (ha.has aD) (hb.has aD) Df Xa aK
     have bt:=fZ.y
     have uL:=fZ.n
     rw[←hG] at UG
     have aX:=aD.trans fZ.a
     have q4:=cI ((((nW G).length:Nat):Int)=1)
     obtain ⟨zq1,zr1,h5,pD,g_,nq1,Cm,QF,sr1⟩:=tY (d:=d+1) (h:=h3) (ha.has aX) UG hG0 Df hlg bt
     have fA:=g_.y
     have V7:=g_.n
     have ep:=aX.trans g_.a
     have adD:=g_.a
     obtain ⟨zq2,zr2,h6,vL,jm,nq2,nr2,nw2,sr2⟩:=tY (d:=d+1) (h:=h5) (hb.has ep) (UG.has adD) hG0 Xa hlg fA
     have dh:=jm.y
     have GG:=jm.n
     have dK:=ep.trans jm.a
     have sm:=jm.a
     have sm:=jm.a
     have bd7:sF env 32 [(0,(aj ng)),(1,zq1),(2,zq2)]=some (AV.agg [(aj ng),zq1,zq2]):=yQ nq1.known nq2.known
     have sc9:AV.scalar zq1=true:=(ao.tZ nq1)
     have ama:AV.scalar zq2=true:=(ao.tZ nq2)
     obtain ⟨h8,sW,eQ,BE,nI,gQ⟩:=b9 (t:=32) (n:=3) (i:=h.nx) (L:=[(aj ng),zq1,zq2]) dh (jm.a _ _ (g_.a _ _ (fZ.a _ _ aC))) k! rfl rfl z!
     have jl:=Has.ak dK gQ aw o!
     have ev:=pk (d+6) mV ((aj ng)::a::b::aV 46) h .ret h8 (NN aO (fun i=>(AV.ptr i 0))<|CC<|VV ((ha.has aD)).len<|VV (bQ 3 false true .i64 (((nW A).length:Nat):Int) 0)<|BB q2<|CN 2<|EE pA<|CN 2<|VV (UG).len<|VV (bQ 3 false true .i64 (((nW G).length:Nat):Int) 1)<|CC<|BB q4<|BB q4<|BB q4<|BB q4<|VV (aL (a:=some aB) (b:=some (aj false)) q4)<|FF<|CN 2<|EE pD<|CN 7<|EE vL<|CN 8<|QQ bd7<|SS sW<|ZZ) k!
     obtain ⟨hk,k1,k2,k3,k4⟩:=t_ rfl (bn (a:=6) (t:=32) Tryz.func28 yP k! (.inr rfl) ev k! (aN nI k!)) aw ⟨eQ,jl,by omega⟩ ((nq1.has sm).kept gQ (QF _ o!)) (nq2.kept gQ (nw2 _ o!)) (.inr (QF.mono o!)) (.inr (nw2.mono o!))
     exact ⟨_,_,hk,k1,k2,k3,k4,.inr (QF.mono o!),.inr (nw2.mono o!)⟩
noncomputable def lg:Code:=(Tryz.f58.body).getD .skip
theorem vk:Tryz.f58.body=some lg:=by kernel_rfl
noncomputable def xJ:Code:=(Tryz.f32.body).getD .skip
theorem PJ:Tryz.f32.body=some xJ:=by kernel_rfl
noncomputable def zX:Code:=(Tryz.f9.body).getD .skip
theorem SY:Tryz.f9.body=some zX:=by kernel_rfl
theorem HQ {n:Nat} (hn:n≤23):Holds .u8 (aA .u8 (List.replicate 24 0)) 1 (List.replicate n 0):=fun i z hz=>by
 rw[List.getElem?_replicate] at hz
 split at hz
 · cases hz
   exact dP (by rw[List.getElem?_replicate,if_pos o!])
 · cases hz
theorem JU {n:Nat} {D:List Nat} (hn:n≤23) (hD:D.length=n):setFrom (aA .u8 (List.replicate 24 0)) 1 (aA .u8 D)=aA .u8 (0::(D++List.replicate (23 - n) 0)):=by
 rw[mC (by rw[List.length_replicate];omega),hD,List.drop_replicate,show 24 -(1+n)=23 - n by omega]
 rfl
theorem abf {h:ah} {p n u:Nat} {f:TypeId} {ro:Bool} (hn:n=eg u) (h24:n≤23) (hg:h.get p=some (.cells (aA .u8 (0::(dW u n++List.replicate (23 - n) 0))) f ro)):IM h p 1 n=some (.str (bf u)):=by
 have e:((0::(dW u n++List.replicate (23 - n) 0)).drop 1).take n=dW u n:=by
  rw[List.drop_succ_cons,List.drop_zero,List.take_append_of_le_length (by rw[fF];omega),List.take_of_length_le (by rw[fF];omega)]
 have:=B9 (o:=1) (n:=n) hg (by simp [fF];omega)
 rw[e] at this
 rw[this,bf,←hn]
theorem abg {h:ah} {p n u:Nat} {f:TypeId} {ro:Bool} (hn:n=eg u) (h24:n≤23) (hg:h.get p=some (.cells (aA .u8 ((0::(dW u n++List.replicate (23 - n) 0)).set 0 45)) f ro)):IM h p 0 (n+1)=some (.str (45::bf u)):=by
 have e:(((0::(dW u n++List.replicate (23 - n) 0)).set 0 45).drop 0).take (n+1)=45::dW u n:=by
  rw[List.drop_zero,List.set_cons_zero,List.take_succ_cons,List.take_append_of_le_length (by rw[fF];omega),List.take_of_length_le (by rw[fF];omega)]
 have:=B9 (o:=0) (n:=n+1) hg (by simp only[List.length_set,List.length_cons,List.length_append,fF,List.length_replicate];omega)
 rw[e] at this
 rw[this,bf,←hn]
 rfl
theorem HR {u:Nat} (Qy:u≠0) (E3:u<18446744073709551616):eg u≤20:=by
 obtain ⟨n1,n2,n3⟩:=eM u Qy
 have:10^(eg u - 1)<10^20:=Nat.lt_of_le_of_lt n2 (Nat.lt_trans E3 (by decide))
 have:=(Nat.pow_lt_pow_iff_right (by decide:1<10)).1 this
 omega
theorem mW (x:Int):IntKind.u64.wrap x=x%18446744073709551616:=by
 show (if (false&&decide (x%2^64≥2^63))=true then x%2^64 - 2^64 else x%2^64)=_
 rw[if_neg (by simp)]
 omega
def ajF (m:Bool) (u:Nat):List UInt8:=if m then 45::bf u else bf u
theorem LF {d:Nat} {h:ah} {u:Nat} {f:TypeId} {ro:Bool} (hu1:u<9223372036854775808) (hG:h.get 1=some (.cells (aA .u64 pb) f ro)) (aw:Tidy h):
 aQ (d+4) (.fn 58) [.int .i64 (u:Nat),.int .i64 10] h= .ret (.str (bf u)) h:=by
 by_cases hu:u<100
 · have q1:=dg (0≤(u:Int))
   have q2:=dg ((u:Int)<100)
   have ev:=pk (d+3) lg ((ag u)::(af 10)::aV 52) h .ret h (CN 3<|TT<|CC<|VV (yV 2 true false .i64 0 (u:Int))<|CC<|BB q1<|CC<|BB q1<|VV (bh 2 false true .i64 (u:Int) 100)<|VV (aG (a:=some (aj (decide ((u:Int)<100)))) (b:=some (aj false)) q1)<|BB q2<|CC<|EE (show (aQ (d+3)) (.fn 94) [(ag u)] h= .ret (AV.str (bf u)) h from (Pr (d:=d+2) hu))<|CC<|ZZ) k!
   exact ai rfl (az Tryz.func58 vk k! (.inr rfl) ev k!) (Has.refl _) rfl
 · have Qy:u≠0:=by omega
   have E3:u<18446744073709551616:=by omega
   have HS:=HR Qy E3
   obtain ⟨n1,n2,A5⟩:=eM u Qy
   obtain ⟨n,hn⟩:∃n,n=eg u:=⟨_,rfl⟩
   rw[←hn] at n1 n2 A5 HS
   replace HS:n≤23:=by omega
   have ew:IntKind.u64.wrap (u:Int)=(u:Int):=by rw[mW];omega
   clear n2
   have q1:=dg (0≤(u:Int))
   have q2:=cI ((u:Int)<100)
   obtain ⟨h3,gn,bt,ky,eb,bC⟩:=de aw (ar.cells [(bj 0),(bj 0),(bj 0),(bj 0),(bj 0),(bj 0),(bj 0),(bj 0),(bj 0),(bj 0),(bj 0),(bj 0),(bj 0),(bj 0),(bj 0),(bj 0),(bj 0),(bj 0),(bj 0),(bj 0),(bj 0),(bj 0),(bj 0),(bj 0)] 152 false)
   have aX:Has h h3:=bC
   have ajG:h3.get h.nx=some (ar.cells (aA .u8 (List.replicate 24 0)) 152 false):=eb
   have q4:=cI ((u:Int)<0)
   have w5:=fS (1+(n:Int))
   have sl6:aZ env 152 (AV.ptr h.nx 0) (some (af 1)) (some (af (1+(n:Int)))) (none)=some (AV.slice h.nx 1 n 23 false):=pR (e:=5) (N:=24) (lo:=1) (hi:=(n+1)) k! k! (.inl rfl) (.inl (by rw[show ((1+(n:Int)):Int)=(((n+1):Nat):Int) by omega])) o! o! o! o!
   obtain ⟨h7,ml,BK,EV⟩:=SB (d:=d+2) (l:=List.replicate n 0) (u:=u) (p:=h.nx) (o:=1) (n:=n) (c:=23) (op:=false) (C:=aA .u8 (List.replicate 24 0)) (f:=152) (by simp) o! (by rw[aM,List.length_replicate];omega) (HQ HS) ajG A5 E3 bt
   have eC:=BK.1
   rw[←ew] at ml
   have afh:=BK.2.1
   rw[JU HS (fF _ _)] at afh
   have eJ:Has h h7:=BK.has aX aw o!
   have sl8:aZ env 152 (AV.ptr h.nx 0) (some (af 1)) (some (af (1+(n:Int)))) (none)=some (AV.slice h.nx 1 n 23 false):=pR (e:=5) (N:=24) (lo:=1) (hi:=(n+1)) k! k! (.inl rfl) (.inl (by rw[show ((1+(n:Int)):Int)=(((n+1):Nat):Int) by omega])) o! o! o! o!
   have cv9:IM h7 h.nx 1 n=some (AV.str (bf u)):=abf hn HS afh
   have ev:=pk (d+3) lg ((ag u)::(af 10)::aV 52) h .ret h7 (CN 3<|TT<|CC<|VV (yV 2 true false .i64 0 (u:Int))<|CC<|BB q1<|CC<|BB q1<|VV (bh 2 false true .i64 (u:Int) 100)<|VV (aG (a:=some (aj (decide ((u:Int)<100)))) (b:=some (aj false)) q1)<|BB q2<|NN gn (fun i=>(AV.ptr i 0))<|CN 4<|VV (bh 2 false true .i64 (u:Int) 0)<|BB q4<|CC<|EE (show (aQ (d+3)) (.fn 95) [(aa (IntKind.u64.wrap (u:Int)))] h3= .ret (ag n) h3 from (by rw[ew,hn];exact xB (d:=d+1) Qy E3 (aX _ _ hG)))<|CN 2<|VV (iI 3 true false w5)<|QQ sl6<|CC<|EE ml<|CC<|VV (bh 2 false true .i64 (u:Int) 0)<|BB q4<|CC<|VV (iI 3 true false w5)<|QQ sl8<|MM cv9<|CC<|ZZ) k!
   exact ai rfl (az Tryz.func58 vk k! (.inr rfl) ev k!) eJ rfl
theorem LG {d:Nat} {h:ah} {u:Nat} {f:TypeId} {ro:Bool} (Qy:u≠0) (hu1:u≤9223372036854775808) (hG:h.get 1=some (.cells (aA .u64 pb) f ro)) (aw:Tidy h):
 aQ (d+4) (.fn 58) [.int .i64 (-(u:Int)),.int .i64 10] h= .ret (.str (45::bf u)) h:=by
 have E3:u<18446744073709551616:=by omega
 have HS:=HR Qy E3
 obtain ⟨n1,n2,A5⟩:=eM u Qy
 obtain ⟨n,hn⟩:∃n,n=eg u:=⟨_,rfl⟩
 rw[←hn] at n1 n2 A5 HS
 replace HS:n≤23:=by omega
 have ew:IntKind.u64.wrap (0 - IntKind.u64.wrap (-(u:Int)))=(u:Int):=by rw[mW,mW];omega
 clear n2
 have q1:=cI (0≤(-(u:Int)))
 obtain ⟨h2,bD,bP,iA,bB,b8⟩:=de aw (ar.cells [(bj 0),(bj 0),(bj 0),(bj 0),(bj 0),(bj 0),(bj 0),(bj 0),(bj 0),(bj 0),(bj 0),(bj 0),(bj 0),(bj 0),(bj 0),(bj 0),(bj 0),(bj 0),(bj 0),(bj 0),(bj 0),(bj 0),(bj 0),(bj 0)] 152 false)
 have b7:Has h h2:=b8
 have aaL:h2.get h.nx=some (ar.cells (aA .u8 (List.replicate 24 0)) 152 false):=bB
 have q3:=dg ((-(u:Int))<0)
 have w4:=fS (1+(n:Int))
 have V8:aZ env 152 (AV.ptr h.nx 0) (some (af 1)) (some (af (1+(n:Int)))) (none)=some (AV.slice h.nx 1 n 23 false):=pR (e:=5) (N:=24) (lo:=1) (hi:=(n+1)) k! k! (.inl rfl) (.inl (by rw[show ((1+(n:Int)):Int)=(((n+1):Nat):Int) by omega])) o! o! o! o!
 obtain ⟨h6,vL,G0,wP⟩:=SB (d:=d+2) (l:=List.replicate n 0) (u:=u) (p:=h.nx) (o:=1) (n:=n) (c:=23) (op:=false) (C:=aA .u8 (List.replicate 24 0)) (f:=152) (by simp) o! (by rw[aM,List.length_replicate];omega) (HQ HS) aaL A5 E3 bP
 have dh:=G0.1
 rw[←ew] at vL
 have afi:=G0.2.1
 rw[JU HS (fF _ _)] at afi
 have dK:Has h h6:=G0.has b7 aw o!
 have N5:bq env (some (.array 24 5)) (some (AV.ptr h.nx 0)) (some (af 0))=some (AV.ptr h.nx 0):=Uu (z:=0) k! o!
 obtain ⟨h8,sW,Y6,eQ,BE⟩:=Iz 5 0 45 dh afi (show 0<(0::(dW u n++List.replicate (23 - n) 0)).length by simp)
 have jl:Has h h8:=Y6.has dK aw o!
 have sl9:aZ env 152 (AV.ptr h.nx 0) (none) (some (af (1+(n:Int)))) (none)=some (AV.slice h.nx 0 (n+1) 24 false):=pR (e:=5) (N:=24) (lo:=0) (hi:=(n+1)) k! k! (.inr ⟨rfl,rfl⟩) (.inl (by rw[show ((1+(n:Int)):Int)=(((n+1):Nat):Int) by omega])) o! o! o! o!
 have amg:IM h8 h.nx 0 (n+1)=some (AV.str (45::bf u)):=abg hn HS Y6.2.1
 have ev:=pk (d+3) lg ((af (-(u:Int)))::(af 10)::aV 52) h .ret h8 (CN 3<|TT<|CC<|VV (yV 2 true false .i64 0 (-(u:Int)))<|CC<|BB q1<|BB q1<|VV (aL (a:=some aB) (b:=some (aj false)) q1)<|FF<|NN bD (fun i=>(AV.ptr i 0))<|CN 4<|VV (bh 2 false true .i64 (-(u:Int)) 0)<|BB q3<|CN 4<|EE (show (aQ (d+3)) (.fn 95) [(aa (IntKind.u64.wrap (0 -(IntKind.u64.wrap (-(u:Int))))))] h2= .ret (ag n) h2 from (by rw[ew,hn];exact xB (d:=d+1) Qy E3 (b7 _ _ hG)))<|CN 2<|VV (iI 3 true false w4)<|QQ V8<|CC<|EE vL<|CC<|VV (bh 2 false true .i64 (-(u:Int)) 0)<|BB q3<|VV N5<|SS sW<|CC<|VV (iI 3 true false w4)<|QQ sl9<|MM amg<|CC<|ZZ) k!
 exact ai rfl (az Tryz.func58 vk k! (.inr rfl) ev k!) jl rfl
def PK (z:Int):List UInt8:=ajF (decide (z<0)) z.natAbs
theorem LH {d:Nat} {h:ah} {z:Int} {f:TypeId} {ro:Bool} (h1: -9223372036854775808≤z) (h2:z<9223372036854775808) (hG:h.get 1=some (.cells (aA .u64 pb) f ro)) (aw:Tidy h):
 aQ (d+4) (.fn 58) [.int .i64 z,.int .i64 10] h= .ret (.str (PK z)) h:=by
 unfold PK
 by_cases q:z<0
 · rw[decide_eq_true q]
   have:=LG (d:=d) (u:=z.natAbs) o! o! hG aw
   rw[show (-((z.natAbs:Nat):Int))=z by omega] at this
   exact this
 · rw[decide_eq_false q]
   have:=LF (d:=d) (u:=z.natAbs) o! hG aw
   rw[show ((z.natAbs:Nat):Int)=z by omega] at this
   exact this
theorem PL {d:Nat} {h:ah} {z:Int} {f:TypeId} {ro:Bool} (h1: -9223372036854775808≤z) (h2:z<9223372036854775808) (hG:h.get 1=some (.cells (aA .u64 pb) f ro)) (aw:Tidy h):
 aQ (d+5) (.fn 32) [.int .i64 z,.int .i64 10] h= .ret (.str (PK z)) h:=by
 have ev:=pk (d+4) xJ ((af z)::(af 10)::aV 6) h .ret h (CN 3<|EE (show (aQ (d+4)) (.fn 58) [(af z),(af 10)] h= .ret (AV.str (PK z)) h from LH (d:=d) h1 h2 hG aw)<|CC<|ZZ) k!
 exact ai rfl (az Tryz.func32 PJ k! (.inr rfl) ev k!) (Has.refl _) rfl
theorem ajH {d:Nat} {h:ah} {z:Int} {f:TypeId} {ro:Bool} (h1: -9223372036854775808≤z) (h2:z<9223372036854775808) (hG:h.get 1=some (.cells (aA .u64 pb) f ro)) (aw:Tidy h):
 aQ (d+6) (.fn 9) [.int .i64 z] h= .ret (.str (PK z)) h:=by
 have ev:=pk (d+5) zX ((af z)::aV 4) h .ret h (CN 2<|EE (show (aQ (d+5)) (.fn 32) [(af z),(af 10)] h= .ret (AV.str (PK z)) h from PL (d:=d) h1 h2 hG aw)<|CC<|ZZ) k!
 exact ai rfl (az Tryz.func9 SY k! (.inr rfl) ev k!) (Has.refl _) rfl
end Go.Proofs.aF
