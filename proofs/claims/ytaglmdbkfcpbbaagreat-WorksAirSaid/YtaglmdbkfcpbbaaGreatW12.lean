import Derived.Test.YtaglmdbkfcpbbaaGreatW9
import Derived.Test.YtaglmdbkfcpbbaaGreatW10
import Derived.Test.YtaglmdbkfcpbbaaGreatW11
import Derived.Test.YtaglmdbkfcpbbaaGreatW0
namespace Go.Proofs.bt
open Go.Proofs Ab
set_option maxRecDepth 100000
set_option maxHeartbeats 4000000
set_option linter.unusedVariables false
set_option linter.unusedSimpArgs false
structure O3 (P:Int→Bool) (N r:Int):Prop where
 r0:0≤r
 rN:r≤N
 lo:∀y,0≤y→y<r→P y=false
 hi:∀y,r≤y→y<N→P y=true
theorem vI {P:Int→Bool} {N:Int} (hN:N≤1000000) (mono:∀y z,0≤y→y≤z→z<N→P y=true→P z=true):∀(k:Nat) (i j:Int),j - i≤(k:Int)→0≤i→i≤j→j≤N→(∀y,0≤y→y<i→P y=false)→(∀y,j≤y→y<N→P y=true)→O3 P N (fB P k i j)
 | 0,i,j,h,h0,h1,h2,a,b=>by
   rw[fB]
   exact ⟨h0,by omega,a,fun y hy=>b y (by omega)⟩
 | k+1,i,j,h,h0,h1,h2,a,b=>by
   rw[fB]
   by_cases q:i<j
   · obtain ⟨e,m1,m2⟩:=OG h0 q (by omega)
     rw[e,decide_eq_true q]
     simp only[cond_true]
     cases hp:P ((i+j) /2) with
     | false=>
       simp only[Bool.not_false,cond_true]
       refine vI hN mono k _ _ (by omega) (by omega) (by omega) h2 (fun y y0 y1=>?_) b
       cases hy:P y with
       | false=>rfl
       | true=>have:=mono y ((i+j) /2) y0 (by omega) (by omega) hy;rw[hp] at this;cases this
     | true=>
       simp only[Bool.not_true,cond_false]
       exact vI hN mono k _ _ (by omega) h0 m1 (by omega) a fun y y1 y2=>mono _ y (by omega) y1 y2 hp
   · rw[decide_eq_false q]
     simp only[cond_false]
     exact ⟨h0,by omega,a,fun y hy=>b y (by omega)⟩
theorem IE {P:Int→Bool} {N:Int} (h0:0≤N) (hN:N≤1000000) (mono:∀y z,0≤y→y≤z→z<N→P y=true→P z=true):O3 P N (bp N P):=
 vI hN mono _ 0 N (by omega) (Int.le_refl _) h0 (Int.le_refl _) (fun y _ _=>by omega) fun y _ _=>by omega
structure NZ (s:fj):Prop where
 order:bq s=true
 UN:bF s=true
 tQ:bu s=true
 Rg:cd s=true
 short:bG s=true
theorem tg (s:fj):c9 s=0↔NZ s:=by
 unfold c9
 constructor
 · intro h
   cases q1:bq s with
   | false=>rw[q1] at h;cases h
   | true=>
   cases q2:bF s with
   | false=>rw[q1,q2] at h;cases h
   | true=>
   cases q3:bu s with
   | false=>rw[q1,q2,q3] at h;cases h
   | true=>
   cases q4:cd s with
   | false=>rw[q1,q2,q3,q4] at h;cases h
   | true=>
   cases q5:bG s with
   | false=>rw[q1,q2,q3,q4,q5] at h;cases h
   | true=>exact ⟨q1,q2,q3,q4,q5⟩
 · intro ⟨h1,h2,h3,h4,h5⟩
   rw[h1,h2,h3,h4,h5];rfl
theorem vJ {t:aK} {a:List aO} {x:aO} (hx:Ok x) (ha:∀d∈a,Ok d) (h:cd (st t a x)=true) (hn:a≠ []):t.rest≤x.aP -(a.g (a.length - 1)).out:=by
 rw[rz,decide_eq_false (show ¬((a.length:Nat):Int)=0 from fun e=>hn (List.length_eq_zero_iff.1 (by omega)))] at h
 have hl:=List.length_pos_iff.2 hn
 have b:=ha _ (At (show a.length - 1<a.length by omega))
 have:=hx.i0;have:=hx.i1;have:=b.o0;have:=b.o1
 rw[wrap_i64 (by omega) (by omega)] at h
 exact of_decide_eq_true h
theorem chain {t:aK} {l:List aO} (s:uy t l) (hr:0≤t.rest) (nf:∀j,j<l.length→cX t l (j:Int)=0) (w:List UInt8):∀n,n≤l.length→∀d∈oT w (l.take n),d.leave≤d.out∧d.out≤((oT w (l.take n)).g ((oT w (l.take n)).length - 1)).out
 | 0,_,d,hd=>by cases hd
 | i+1,h,d,hd=>by
   have hi:i<l.length:=by omega
   rw[yT w hi] at hd ⊢
   by_cases q:(l.g i).worker=w
   · rw[decide_eq_true q] at hd ⊢
     simp only[cond_true] at hd ⊢
     have hf:=nf i hi
     rw[←yV t (fun j hj=>(xb s.UH j hj).1) (by have:=s.len;omega) hi fun j hj=>s.Ok j (by omega)] at hf
     have WY:=(tg _).1 hf
     rw[q] at WY
     have hx:=s.Ok i hi
     have ho:=WY.order
     rw[pU] at ho
     have h1:(l.g i).aP<(l.g i).leave∧(l.g i).leave≤(l.g i).out:=by
      by_cases e:(l.g i).aP<(l.g i).leave
      · rw[decide_eq_true e] at ho;exact ⟨e,of_decide_eq_true ho⟩
      · rw[decide_eq_false e] at ho;cases ho
     have xP:(oT w (List.take i l)++[l.g i]).g ((oT w (List.take i l)++[l.g i]).length - 1)=l.g i:=by
      rw[List.length_append,List.length_singleton,Nat.add_sub_cancel,List.g,List.getD_eq_getElem?_getD,List.getElem?_append_right (Nat.le_refl _),Nat.sub_self];rfl
     rw[xP]
     rcases List.mem_append.1 hd with hd | hd
     · have ih:=chain s hr nf w i (by omega) d hd
       have mV:=FL (w:=w) (show i≤l.length by omega) fun j hj=>s.Ok j (by omega)
       have:=vJ hx mV WY.Rg (List.ne_nil_of_mem hd)
       omega
     · rw[List.mem_singleton] at hd;subst hd
       exact ⟨h1.2,Int.le_refl _⟩
   · rw[decide_eq_false q] at hd ⊢
     exact chain s hr nf w i (by omega) d hd
def X (w:List UInt8) (p m n i:Int):aO:=⟨w,p,i,i+m,i+m+n⟩
theorem Ri {w:List UInt8} {p m n i:Int} (hm:0≤m) (hn:0≤n) (hi:0≤i) (h:i+m+n≤1000000):Ok (X w p m n i):=
 ⟨hi,by show i≤_;omega,by show 0≤i+m;omega,by show i+m≤_;omega,by show 0≤i+m+n;omega,h⟩
theorem Hm {x y:aO}:∀{l:List aO},(∀d∈l,ta y d≤ta x d)→j3 y l≤j3 x l
 | [],_=>Int.le_refl _
 | d::l,h=>by
   have a:=h d (by simp)
   have b:=Hm (x:=x) (y:=y) (l:=l) fun e he=>h e (by simp [he])
   show ta y d+j3 y l≤ta x d+j3 x l
   omega
theorem later {t:aK} {a:List aO} {w:List UInt8} {p m n i j:Int} (hr:0≤t.rest) (ha:∀d∈a,Ok d) (hlen:a.length≤1000) (hc:∀d∈a,d.leave≤d.out∧d.out≤(a.g (a.length - 1)).out) (hm:0<m) (O4:m≤100000) (hn:0≤n) (Ry:n≤100000) (hi:0≤i) (Xg:i≤j) (hj:j≤300000)
 (h:c9 (st t a (X w p m n i))=0):c9 (st t a (X w p m n j))=0:=by
 have oi:=Ri (w:=w) (p:=p) (m:=m) (n:=n) (i:=i) (by omega) hn hi (by omega)
 have oj:=Ri (w:=w) (p:=p) (m:=m) (n:=n) (i:=j) (by omega) hn (by omega) (by omega)
 obtain ⟨h1,h2,h3,h4,h5⟩:=(tg _).1 h
 refine (tg _).2 ⟨?_,?_,?_,?_,?_⟩
 · rw[pU]
   rw[decide_eq_true (show (X w p m n j).aP<(X w p m n j).leave by show j<j+m;omega),decide_eq_true (show (X w p m n j).leave≤(X w p m n j).out by show j+m≤j+m+n;omega)];rfl
 · rw[ux] at h2 ⊢
   rw[show (X w p m n i).leave -(X w p m n i).aP=m by show i+m - i=m;omega] at h2
   rw[show (X w p m n j).leave -(X w p m n j).aP=m by show j+m - j=m;omega]
   exact h2
 · rw[AD] at h3 ⊢
   rw[show (X w p m n i).leave -(X w p m n i).aP=m by show i+m - i=m;omega,show (X w p m n i).out -(X w p m n i).leave=n by show i+m+n -(i+m)=n;omega] at h3
   rw[show (X w p m n j).leave -(X w p m n j).aP=m by show j+m - j=m;omega,show (X w p m n j).out -(X w p m n j).leave=n by show j+m+n -(j+m)=n;omega]
   exact h3
 · by_cases e:a=[]
   · subst e;rfl
   · have r1:=vJ oi ha h4 e
     have hl:=List.length_pos_iff.2 e
     have b:=ha _ (At (show a.length - 1<a.length by omega))
     have:=b.o0;have:=b.o1
     have r2:t.rest≤j -(a.g (a.length - 1)).out:=by
      have:t.rest≤i -(a.g (a.length - 1)).out:=r1
      omega
     rw[rz,decide_eq_false (show ¬((a.length:Nat):Int)=0 by omega)]
     rw[show (X w p m n j).aP=j from rfl,wrap_i64 (by omega) (by omega)]
     exact decide_eq_true r2
 · rw[yU t oi ha hlen] at h5
   rw[yU t oj ha hlen]
   have h5:=of_decide_eq_true h5
   apply decide_eq_true
   have own:ta (X w p m n j) (X w p m n j)=ta (X w p m n i) (X w p m n i):=by
    rw[uw oi oi,uw oj oj]
    show max 0 (min (j+m) (j+m) - max j (j+m - 1440))=max 0 (min (i+m) (i+m) - max i (i+m - 1440))
    omega
   have:j3 (X w p m n j) a≤j3 (X w p m n i) a:=Hm fun d hd=>by
    have r1:t.rest≤i -(a.g (a.length - 1)).out:=vJ oi ha h4 (List.ne_nil_of_mem hd)
    have c:=hc d hd
    rw[uw oi (ha d hd),uw oj (ha d hd)]
    show max 0 (min d.leave (j+m) - max d.aP (j+m - 1440))≤max 0 (min d.leave (i+m) - max d.aP (i+m - 1440))
    omega
   omega
noncomputable def j5:Code:=(Tryz.f12.body).getD .skip
theorem th:Tryz.f12.body=some j5:=by kernel_rfl
noncomputable def mK:Code:=(dD j5).getD 0 .skip
def il (a:List Int) (b:List Int):Nat→Nat→Option (Bool)
 | 0,_=>none
 | eG+1,i0=>(bif (!decide ((a.g i0)=(b.g i0))) then some false else il a b eG (i0+1))
theorem ou {d:Nat} {h:ar} (aV:AV) (bV:AV) (a:List Int) (b:List Int) (bk:fW h .u8 81 aV a) (ft:fW h .u8 81 bV b) (vw:a.length=b.length):∀(k_ i_:Nat) (_:i_+k_=a.length) (x:Nat→AV) (hh:ar) (bb:Tidy hh) (aR:Has h hh),aY (eD (d)) mK ⟨(aV::bV::rx x 2 3 ((AV.int .i64 ((i_:Nat):Int))::rx x 6 20 [])),hh,[],.no⟩ (.exit 0) hh (fun y=>(aV::bV::rx y 2 24 [])) (fun r y=>(aV::bV::(y 2)::(y 3)::(AV.bool r)::rx y 5 21 [])) (il a b k_ i_)
 | 0,i0,qo,x,hh,bb,aR=>by
   have fK:=bk.small
   have lC:=ft.small
   have hS:cJ (some (.slice 81)) (some aV)=some (AV.int .i64 ((a.length:Nat):Int)):=(bk.has aR).len
   have q2:(decide (((i0:Nat):Int)<((a.length:Nat):Int)))=false:=d!
   have ev:=pk (d) mK (aV::bV::rx x 2 3 ((AV.int .i64 ((i0:Nat):Int))::rx x 6 20 [])) hh (.exit 0) hh (CN 2<|VV hS<|VV (bT 3 false false .i64 ((i0:Nat):Int) ((a.length:Nat):Int))<|BB q2<|ZZ) k!
   exact aY.out rfl ev (cG.refl bb) k!
 | eG+1,i0,qo,x,hh,bb,aR=>by
   have fK:=bk.small
   have lC:=ft.small
   rcases Bool.eq_false_or_eq_true (!decide ((a.g i0)=(b.g i0))) with f1 | f1
   · have jn:=sS f1
     have hS:cJ (some (.slice 81)) (some aV)=some (AV.int .i64 ((a.length:Nat):Int)):=(bk.has aR).len
     have q2:(decide (((i0:Nat):Int)<((a.length:Nat):Int)))=true:=d!
     obtain ⟨p4,q5,js,_⟩:=(bk.has aR).elem (i:=i0) o!
     have nM:c_ env (some (.slice 81)) (some aV) (some (AV.int .i64 ((i0:Nat):Int)))=some (AV.ptr p4 q5):=js
     have wR:bN env hh 81 (AV.ptr p4 q5)=some (AV.int .u8 (a.g i0)):=(bk.has aR).load o! js
     obtain ⟨p8,q9,DE,_⟩:=(ft.has aR).elem (i:=i0) o!
     have vr:c_ env (some (.slice 81)) (some bV) (some (AV.int .i64 ((i0:Nat):Int)))=some (AV.ptr p8 q9):=DE
     have Fo:bN env hh 81 (AV.ptr p8 q9)=some (AV.int .u8 (b.g i0)):=(ft.has aR).load o! DE
     have ev:=pk (d) mK (aV::bV::rx x 2 3 ((AV.int .i64 ((i0:Nat):Int))::rx x 6 20 [])) hh .ret hh (CN 2<|VV hS<|VV (bT 3 false false .i64 ((i0:Nat):Int) ((a.length:Nat):Int))<|BB q2<|CN 2<|VV nM<|MM wR<|CN 2<|VV vr<|MM Fo<|VV (cS 81 false false .u8 (a.g i0) (b.g i0))<|HH wR<|HH (show AV.same 20 (AV.int .u8 (a.g i0)) (AV.int .u8 (a.g i0))=true from aQ 19 _ _)<|HH Fo<|HH (show AV.same 20 (AV.int .u8 (b.g i0)) (AV.int .u8 (b.g i0))=true from aQ 19 _ _)<|BB f1<|CC<|ZZ) k!
     exact aY.ret false (by simp only[il,f1,cond_true,cond_false]) ev (cG.refl bb) k!
   · have jn:=sU f1
     have hS:cJ (some (.slice 81)) (some aV)=some (AV.int .i64 ((a.length:Nat):Int)):=(bk.has aR).len
     have q2:(decide (((i0:Nat):Int)<((a.length:Nat):Int)))=true:=d!
     obtain ⟨p4,q5,js,_⟩:=(bk.has aR).elem (i:=i0) o!
     have nM:c_ env (some (.slice 81)) (some aV) (some (AV.int .i64 ((i0:Nat):Int)))=some (AV.ptr p4 q5):=js
     have wR:bN env hh 81 (AV.ptr p4 q5)=some (AV.int .u8 (a.g i0)):=(bk.has aR).load o! js
     obtain ⟨p8,q9,DE,_⟩:=(ft.has aR).elem (i:=i0) o!
     have vr:c_ env (some (.slice 81)) (some bV) (some (AV.int .i64 ((i0:Nat):Int)))=some (AV.ptr p8 q9):=DE
     have Fo:bN env hh 81 (AV.ptr p8 q9)=some (AV.int .u8 (b.g i0)):=(ft.has aR).load o! DE
     have Wq:=hJ 3 false true i0 1 o!
     have ev:=pk (d) mK (aV::bV::rx x 2 3 ((AV.int .i64 ((i0:Nat):Int))::rx x 6 20 [])) hh .normal hh (CN 2<|VV hS<|VV (bT 3 false false .i64 ((i0:Nat):Int) ((a.length:Nat):Int))<|BB q2<|CN 2<|VV nM<|MM wR<|CN 2<|VV vr<|MM Fo<|VV (cS 81 false false .u8 (a.g i0) (b.g i0))<|HH wR<|HH (show AV.same 20 (AV.int .u8 (a.g i0)) (AV.int .u8 (a.g i0))=true from aQ 19 _ _)<|HH Fo<|HH (show AV.same 20 (AV.int .u8 (b.g i0)) (AV.int .u8 (b.g i0))=true from aQ 19 _ _)<|BB f1<|CC<|VV Wq<|CC<|ZZ) k!
     exact aY.round (by simp only[il,f1,cond_true,cond_false]) ev (cG.refl bb) (fun x=>(aV::bV::rx x 2 3 ((AV.int .i64 (((i0+1):Nat):Int))::rx x 6 20 []))) k! (fun x=>ou aV bV a b bk ft vw eG (i0+1) o! x hh bb aR)
def gE (a:List Int) (b:List Int):Bool:=(bif (!decide (((a.length:Nat):Int)=((b.length:Nat):Int))) then false else (match (il a b a.length 0) with | none=>true | some BS=>BS))
theorem pY {d:Nat} {h:ar} {aV bV:AV} (a:List Int) (b:List Int) (RI:fW h .u8 81 aV a) (RJ:fW h .u8 81 bV b) (b4:Tidy h):eD (d+1) (.fn 12) [aV,bV] h= .ret (AV.bool (gE a b)) h:=by
 have XU:=RI.small
 have XV:=RJ.small
 rcases Bool.eq_false_or_eq_true (!decide (((a.length:Nat):Int)=((b.length:Nat):Int))) with f0 | f0
 · have fH:=sS f0
   have hS:cJ (some (.slice 81)) (some aV)=some (AV.int .i64 ((a.length:Nat):Int)):=RI.len
   have BL:cJ (some (.slice 81)) (some bV)=some (AV.int .i64 ((b.length:Nat):Int)):=RJ.len
   have ev:=pk (d) j5 (aV::bV::cz 24) h .ret h (CN 2<|VV hS<|CC<|VV BL<|VV (cS 3 false false .i64 ((a.length:Nat):Int) ((b.length:Nat):Int))<|BB f0<|CC<|ZZ) k!
   have e:gE a b=false:=by simp only[gE,f0,cond_true,cond_false]
   rw[e]
   exact az rfl (bz Tryz.func12 th k! (.inr rfl) ev k!) (Has.refl _) rfl
 · have fH:=sU f0
   cases eT:il a b a.length 0 with
   | none=>
     have hS:cJ (some (.slice 81)) (some aV)=some (AV.int .i64 ((a.length:Nat):Int)):=RI.len
     have BL:cJ (some (.slice 81)) (some bV)=some (AV.int .i64 ((b.length:Nat):Int)):=RJ.len
     obtain ⟨Av,h5,eI,bJ⟩:=aY.n eT (ou (d:=d) (h:=h) aV bV a b RI RJ o! a.length 0 o! (fun k_=>((aV::bV::AV.undef::AV.undef::(AV.bool false)::(AV.int .i64 0)::aV::(AV.int .i64 ((a.length:Nat):Int))::bV::(AV.int .i64 ((b.length:Nat):Int))::(AV.bool (!decide (((a.length:Nat):Int)=((b.length:Nat):Int))))::cz 15):List AV).getD k_ AV.undef) h b4 (Has.refl _))
     have eB:=bJ.y
     have lD:h.nx≤h5.nx:=bJ.n
     have ck:Has h h5:=bJ.a
     have ev:=pk (d) j5 (aV::bV::cz 24) h .ret h5 (CN 2<|VV hS<|CC<|VV BL<|VV (cS 3 false false .i64 ((a.length:Nat):Int) ((b.length:Nat):Int))<|BB f0<|CC<|LL eI<|CC<|ZZ) k!
     have e:gE a b=true:=by simp only[gE,f0,eT,cond_true,cond_false]
     rw[e]
     exact az rfl (bz Tryz.func12 th k! (.inr rfl) ev k!) ck rfl
   | some BS=>
     have hS:cJ (some (.slice 81)) (some aV)=some (AV.int .i64 ((a.length:Nat):Int)):=RI.len
     have BL:cJ (some (.slice 81)) (some bV)=some (AV.int .i64 ((b.length:Nat):Int)):=RJ.len
     obtain ⟨Av,h5,eI,bJ⟩:=aY.r eT (ou (d:=d) (h:=h) aV bV a b RI RJ o! a.length 0 o! (fun k_=>((aV::bV::AV.undef::AV.undef::(AV.bool false)::(AV.int .i64 0)::aV::(AV.int .i64 ((a.length:Nat):Int))::bV::(AV.int .i64 ((b.length:Nat):Int))::(AV.bool (!decide (((a.length:Nat):Int)=((b.length:Nat):Int))))::cz 15):List AV).getD k_ AV.undef) h b4 (Has.refl _))
     have eB:=bJ.y
     have lD:h.nx≤h5.nx:=bJ.n
     have ck:Has h h5:=bJ.a
     have ev:=pk (d) j5 (aV::bV::cz 24) h .ret h5 (CN 2<|VV hS<|CC<|VV BL<|VV (cS 3 false false .i64 ((a.length:Nat):Int) ((b.length:Nat):Int))<|BB f0<|CC<|LL eI<|ZZ) k!
     have e:gE a b=BS:=by simp only[gE,f0,eT,cond_true,cond_false]
     rw[e]
     exact az rfl (bz Tryz.func12 th k! (.inr rfl) ev k!) ck rfl
noncomputable def mh:Code:=(Tryz.f4.body).getD .skip
theorem zj:Tryz.f4.body=some mh:=by kernel_rfl
noncomputable def ti:Code:=(dD mh).getD 0 .skip
def lI (l_:List aO):Nat→Nat→Int→Int
 | 0,_,cY=>cY
 | eG+1,i0,cY=>lI l_ eG (i0+1) (IntKind.i64.wrap (cY+(IntKind.i64.wrap (Int.tdiv ((List.length ((l_.g i0).worker):Nat):Int) 20))))
theorem n6 {d:Nat} {h:ar} (bA:AV) (l_:List aO) (t:aK) (cC:Nat) (bk:bD h bA l_) (ft:bD h t.ak t.rows) (l8:aD.ok h t):∀(k_ i_:Nat) (cY:Int) (_:i_+k_=l_.length) (x:Nat→AV) (hh:ar) (bb:Tidy hh) (aR:Has h hh) (dg:hh.get cC=some (aH.cells [t.ak,(AV.int .i64 t.rest),(AV.int .i64 t.day)] 24 false)),dm (eD (d)) ti ⟨((x 0)::bA::(AV.ptr cC 0)::(x 3)::(x 4)::(AV.int .i64 cY)::(AV.int .i64 ((i_:Nat):Int))::rx x 7 28 []),hh,[],.no⟩ (.exit 0) hh (fun r y=>((y 0)::bA::(AV.ptr cC 0)::(y 3)::(y 4)::(AV.int .i64 r)::rx y 6 29 [])) (fun r=>True) (lI l_ k_ i_ cY)
 | 0,i0,cY,qo,x,hh,bb,aR,dg=>by
   have fK:=bk.small
   have lC:=ft.small
   have sW:=bb _ _ dg
   have hS:cJ (some (.slice 37)) (some bA)=some (AV.int .i64 ((l_.length:Nat):Int)):=(bk.has aR).len
   have q2:(decide (((i0:Nat):Int)<((l_.length:Nat):Int)))=false:=d!
   have ev:=pk (d) ti ((x 0)::bA::(AV.ptr cC 0)::(x 3)::(x 4)::(AV.int .i64 cY)::(AV.int .i64 ((i0:Nat):Int))::rx x 7 28 []) hh (.exit 0) hh (CN 2<|VV hS<|VV (bT 3 false false .i64 ((i0:Nat):Int) ((l_.length:Nat):Int))<|BB q2<|ZZ) k!
   exact dm.out cY rfl ev (cG.refl bb) trivial k!
 | eG+1,i0,cY,qo,x,hh,bb,aR,dg=>by
   have fK:=bk.small
   have lC:=ft.small
   have sW:=bb _ _ dg
   have hS:cJ (some (.slice 37)) (some bA)=some (AV.int .i64 ((l_.length:Nat):Int)):=(bk.has aR).len
   have q2:(decide (((i0:Nat):Int)<((l_.length:Nat):Int)))=true:=d!
   obtain ⟨p4,q5,js⟩:=(bk.has aR).elem (i:=i0) o!
   have nM:c_ env (some (.slice 37)) (some bA) (some (AV.int .i64 ((i0:Nat):Int)))=some (AV.ptr p4 q5):=js
   have wR:bN env hh 9 (AV.ptr p4 (q5+0))=some (AV.str ((l_.g i0).worker)):=(bk.has aR).part (t:=9) (j:=0) o! js k! rfl
   have ZT:((l_.g i0).worker).length<2^60:=((bk.has aR).ok (i:=i0) o!)
   have u8:=hJ 3 false true i0 1 o!
   have ev:=pk (d) ti ((x 0)::bA::(AV.ptr cC 0)::(x 3)::(x 4)::(AV.int .i64 cY)::(AV.int .i64 ((i0:Nat):Int))::rx x 7 28 []) hh .normal hh (CN 2<|VV hS<|VV (bT 3 false false .i64 ((i0:Nat):Int) ((l_.length:Nat):Int))<|BB q2<|CN 3<|VV nM<|CC<|MM wR<|CN 5<|VV u8<|CC<|ZZ) k!
   exact dm.round (by simp only[lI,cond_true,cond_false]) ev (cG.refl bb) (fun x=>((x 0)::bA::(AV.ptr cC 0)::(x 3)::(x 4)::(AV.int .i64 (IntKind.i64.wrap (cY+(IntKind.i64.wrap (Int.tdiv ((List.length ((l_.g i0).worker):Nat):Int) 20)))))::(AV.int .i64 (((i0+1):Nat):Int))::rx x 7 28 [])) k! (fun x=>n6 bA l_ t cC bk ft l8 eG (i0+1) (IntKind.i64.wrap (cY+(IntKind.i64.wrap (Int.tdiv ((List.length ((l_.g i0).worker):Nat):Int) 20)))) o! x hh bb aR dg)
def ov (t:aK) (l_:List aO):Bool:=(bif (decide (100<((t.rows.length:Nat):Int))) then true else (bif (decide (200<((l_.length:Nat):Int))) then true else (decide (100<(lI l_ l_.length 0 0)))))
theorem j6 {d:Nat} {h:ar} {bA:AV} (t:aK) (l_:List aO) (b8:aD.ok h t) (bE:bD h bA l_) (b4:Tidy h):eD (d+1) (.fn 4) [(AV.agg [t.ak,(AV.int .i64 t.rest),(AV.int .i64 t.day)]),bA] h= .ret (AV.bool (ov t l_)) h:=by
 have pP:=bE.small
 rcases Bool.eq_false_or_eq_true (decide (100<((t.rows.length:Nat):Int))) with f0 | f0
 · have fH:=of_decide_eq_true f0
   obtain ⟨h1,bm,aL,cu,aE,bh⟩:=cj b4 (aH.cells [t.ak,(AV.int .i64 t.rest),(AV.int .i64 t.day)] 24 false)
   have aG:Has h h1:=bh
   obtain ⟨NL,h3,iz,hT,Hn⟩:=n6 (d:=d) (h:=h) bA l_ t h.nx bE b8 b8 l_.length 0 0 o! (fun k_=>(((AV.agg [t.ak,(AV.int .i64 t.rest),(AV.int .i64 t.day)])::bA::(AV.ptr h.nx 0)::AV.undef::(AV.bool false)::(AV.int .i64 0)::(AV.int .i64 0)::cz 28):List AV).getD k_ AV.undef) h1 aL aG aE
   have kA:=hT.y
   have BJ:h1.nx≤h3.nx:=hT.n
   have iA:Has h h3:=aG.trans hT.a
   have DG:cJ (some (.slice 67)) (some t.ak)=some (AV.int .i64 ((t.rows.length:Nat):Int)):=b8.len
   have ev:=pk (d) mh ((AV.agg [t.ak,(AV.int .i64 t.rest),(AV.int .i64 t.day)])::bA::cz 33) h .ret h3 (NN bm (fun i=>(AV.ptr i 0))<|CN 3<|LL iz<|CC<|MM (aw 22 0 t.ak (hT.a _ _ aE) k!)<|VV DG<|VV (dA 3 false true .i64 ((t.rows.length:Nat):Int) 100)<|CC<|BB f0<|BB f0<|BB f0<|VV (aX (a:=some (AV.bool true)) (b:=some AV.undef) f0)<|CC<|TT<|TT<|CN 2<|ZZ) k!
   have e:ov t l_=true:=by simp only[ov,f0,cond_true,cond_false]
   rw[e]
   exact az rfl (bz Tryz.func4 zj k! (.inr rfl) ev k!) iA rfl
 · have fH:=of_decide_eq_false f0
   rcases Bool.eq_false_or_eq_true (decide (200<((l_.length:Nat):Int))) with f1 | f1
   · have jn:=of_decide_eq_true f1
     obtain ⟨h1,bm,aL,cu,aE,bh⟩:=cj b4 (aH.cells [t.ak,(AV.int .i64 t.rest),(AV.int .i64 t.day)] 24 false)
     have aG:Has h h1:=bh
     obtain ⟨NL,h3,iz,hT,Hn⟩:=n6 (d:=d) (h:=h) bA l_ t h.nx bE b8 b8 l_.length 0 0 o! (fun k_=>(((AV.agg [t.ak,(AV.int .i64 t.rest),(AV.int .i64 t.day)])::bA::(AV.ptr h.nx 0)::AV.undef::(AV.bool false)::(AV.int .i64 0)::(AV.int .i64 0)::cz 28):List AV).getD k_ AV.undef) h1 aL aG aE
     have kA:=hT.y
     have BJ:h1.nx≤h3.nx:=hT.n
     have iA:Has h h3:=aG.trans hT.a
     have DG:cJ (some (.slice 67)) (some t.ak)=some (AV.int .i64 ((t.rows.length:Nat):Int)):=b8.len
     have Ta:cJ (some (.slice 37)) (some bA)=some (AV.int .i64 ((l_.length:Nat):Int)):=bE.len
     have ev:=pk (d) mh ((AV.agg [t.ak,(AV.int .i64 t.rest),(AV.int .i64 t.day)])::bA::cz 33) h .ret h3 (NN bm (fun i=>(AV.ptr i 0))<|CN 3<|LL iz<|CC<|MM (aw 22 0 t.ak (hT.a _ _ aE) k!)<|VV DG<|VV (dA 3 false true .i64 ((t.rows.length:Nat):Int) 100)<|CC<|BB f0<|CC<|BB f0<|VV Ta<|BB f0<|VV (dA 3 false true .i64 ((l_.length:Nat):Int) 200)<|VV (aJ (a:=some (AV.bool true)) (b:=some (AV.bool (decide (200<((l_.length:Nat):Int))))) f0)<|CC<|BB f1<|BB f1<|VV (aX (a:=some (AV.bool true)) (b:=some AV.undef) f1)<|CC<|ZZ) k!
     have e:ov t l_=true:=by simp only[ov,f0,f1,cond_true,cond_false]
     rw[e]
     exact az rfl (bz Tryz.func4 zj k! (.inr rfl) ev k!) iA rfl
   · have jn:=of_decide_eq_false f1
     obtain ⟨h1,bm,aL,cu,aE,bh⟩:=cj b4 (aH.cells [t.ak,(AV.int .i64 t.rest),(AV.int .i64 t.day)] 24 false)
     have aG:Has h h1:=bh
     obtain ⟨NL,h3,iz,hT,Hn⟩:=n6 (d:=d) (h:=h) bA l_ t h.nx bE b8 b8 l_.length 0 0 o! (fun k_=>(((AV.agg [t.ak,(AV.int .i64 t.rest),(AV.int .i64 t.day)])::bA::(AV.ptr h.nx 0)::AV.undef::(AV.bool false)::(AV.int .i64 0)::(AV.int .i64 0)::cz 28):List AV).getD k_ AV.undef) h1 aL aG aE
     have kA:=hT.y
     have BJ:h1.nx≤h3.nx:=hT.n
     have iA:Has h h3:=aG.trans hT.a
     have DG:cJ (some (.slice 67)) (some t.ak)=some (AV.int .i64 ((t.rows.length:Nat):Int)):=b8.len
     have Ta:cJ (some (.slice 37)) (some bA)=some (AV.int .i64 ((l_.length:Nat):Int)):=bE.len
     have ev:=pk (d) mh ((AV.agg [t.ak,(AV.int .i64 t.rest),(AV.int .i64 t.day)])::bA::cz 33) h .ret h3 (NN bm (fun i=>(AV.ptr i 0))<|CN 3<|LL iz<|CC<|MM (aw 22 0 t.ak (hT.a _ _ aE) k!)<|VV DG<|VV (dA 3 false true .i64 ((t.rows.length:Nat):Int) 100)<|CC<|BB f0<|CC<|BB f0<|VV Ta<|BB f0<|VV (dA 3 false true .i64 ((l_.length:Nat):Int) 200)<|VV (aJ (a:=some (AV.bool true)) (b:=some (AV.bool (decide (200<((l_.length:Nat):Int))))) f0)<|CC<|BB f1<|CC<|BB f1<|VV (dA 3 false true .i64 (lI l_ l_.length 0 0) 100)<|VV (aJ (a:=some (AV.bool true)) (b:=some (AV.bool (decide (100<(lI l_ l_.length 0 0))))) f1)<|CC<|ZZ) k!
     have e:ov t l_=(decide (100<(lI l_ l_.length 0 0))):=by simp only[ov,f0,f1,cond_true,cond_false]
     rw[e]
     exact az rfl (bz Tryz.func4 zj k! (.inr rfl) ev k!) iA rfl
end Go.Proofs.bt
