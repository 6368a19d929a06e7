import Derived.Test.YtkkpegaeikljmaaGreatDoorA6
import Derived.Test.YtkkpegaeikljmaaGreatDoorW0
import Derived.Test.YtkkpegaeikljmaaGreatDoorEnv
import Derived.Test.YtkkpegaeikljmaaGreatDoorW1
namespace Go.Proofs.aF
open Go.Proofs Ab
set_option maxRecDepth 100000
set_option maxHeartbeats 4000000
set_option linter.unusedVariables false
set_option linter.unusedSimpArgs false
noncomputable def uQ:Code:=(Tryz.f129.body).getD .skip
theorem VQ:Tryz.f129.body=some uQ:=by kernel_rfl
noncomputable def sd:Code:=(aY uQ).getD 0 .skip
theorem IC {call:aE} {h:ah} {ds:List cC} {rc:RC} {x1 x3 x4 x5 x6 x8 x9 x13 x14 x15 x16 x17 x18 x19 x20 x21 x22 x23 x24 x25 x26 x27 x28 x29 x30:AV} {z a:AV} {sh ca i n:Int} {p2 p3 Ff p12:Nat} {y5 u7 u9 W1:Int} {T4:List AV} {Za:TypeId} (aw:Tidy h) (ES:0≤h.nx) (q1:(decide (i<n))=true) (c4:bq env (some (.slice 54)) (some a) (some (af i))=some (AV.ptr p2 p3)) (c6:bk env h 54 (AV.ptr p2 p3)=some (aa y5)) (c8:aI env .shl 54 false false (some (aa y5)) (some (aa sh))=some (aa u7)) (VH:aI env .or 54 false false (some (aa u7)) (some (aa ca))=some (aa u9)) (c13:bq env (some (.slice 54)) (some z) (some (af i))=some (AV.ptr Ff p12)) (GI:h.get Ff=some (ar.cells T4 Za false)) (ak8:p12<T4.length) (c16:aI env .shr 54 false false (some (aa y5)) (some (aa (IntKind.u64.wrap (64 - sh))))=some (aa W1)) (w17:IntKind.i64.wrap (i+1)=i+1):
 ∃(pP:ah),Ev env call sd ⟨[z,x1,(aa sh),x3,x4,x5,x6,(aa ca),x8,x9,a,(af n),(af i),x13,x14,x15,x16,x17,x18,x19,x20,x21,x22,x23,x24,x25,x26,x27,x28,x29,x30],h,ds,rc⟩ .normal ⟨[z,x1,(aa sh),x3,x4,x5,x6,(aa W1),(af i),(aa y5),a,(af n),(af (i+1)),(aj (decide (i<n))),(af i),(AV.ptr p2 p3),(aa y5),z,(af i),(aa y5),(aa sh),(aa u7),(aa ca),(aa u9),(AV.ptr Ff p12),(aa y5),(aa sh),(aa (IntKind.u64.wrap (64 - sh))),(aa W1),(af (i+1)),x30],pP,ds,rc⟩∧nj h pP Ff (ar.cells (T4.set p12 (aa u9)) Za false)∧pP.nx=h.nx:=by
 obtain ⟨pP,jc⟩:∃h',ch env h 54 (AV.ptr Ff p12) (aa u9)=some h':=mA (n:=1) GI k! rfl o! z!
 have dS:=iU aw jc GI
 have oZ:=kq jc GI
 have mF:nj h pP Ff (ar.cells (T4.set p12 (aa u9)) Za false):=⟨dS,jP aw jc GI,fun i x hi gx=>gX aw jc GI hi gx⟩
 exact ⟨pP,aR (n:=200) (VV (bh 3 false false .i64 i n)<|BB q1<|CC<|VV c4<|MM c6<|CN 6<|VV c8<|CC<|VV VH<|VV c13<|SS jc<|CN 3<|VV c16<|CC<|VV (iI 3 false true w17)<|CC<|ZZ) k!,mF,oZ⟩
theorem ID {call:aE} {h:ah} {ds:List cC} {rc:RC} {x1 x3 x4 x5 x6 x8 x9 x13 x14 x15 x16 x17 x18 x19 x20 x21 x22 x23 x24 x25 x26 x27 x28 x29 x30:AV} {z a:AV} {sh ca i n:Int} (q1:(decide (i<n))=false):
 Ev env call sd ⟨[z,x1,(aa sh),x3,x4,x5,x6,(aa ca),x8,x9,a,(af n),(af i),x13,x14,x15,x16,x17,x18,x19,x20,x21,x22,x23,x24,x25,x26,x27,x28,x29,x30],h,ds,rc⟩ (.exit 0) ⟨[z,x1,(aa sh),x3,x4,x5,x6,(aa ca),x8,x9,a,(af n),(af i),(aj (decide (i<n))),x14,x15,x16,x17,x18,x19,x20,x21,x22,x23,x24,x25,x26,x27,x28,x29,x30],h,ds,rc⟩:=
 aR (n:=200) (VV (bh 3 false false .i64 i n)<|BB q1<|ZZ) k!
theorem R4 {call:aE} {h:ah} {z a:AV} {sh:Int} {n1 co:Int} {RS YW acJ RU YX YY acK YZ Y2 NS NT NU NV NW NX NY NZ TY TZ T0 aei aej aek ael aem aen aeo aep aeq aia:AV} {hz:ah} (aw:Tidy h) (ES:0≤h.nx) (afY:Tidy hz) (afZ:0≤hz.nx) (c2:dO (some (.slice 54)) (some a)=some (af n1)) (e4:Ev env call (.loop sd) ⟨(z::a::(aa sh)::aB::aB::aB::(aa 0)::(aa 0)::aB::aB::a::(af n1)::(af 0)::aV 18),h,[],.no⟩ (.exit 0) ⟨[RS,YW,acJ,RU,YX,YY,acK,(aa co),YZ,Y2,NS,NT,NU,NV,NW,NX,NY,NZ,TY,TZ,T0,aei,aej,aek,ael,aem,aen,aeo,aep,aeq,aia],hz,[],.no⟩):
 Ev env call uQ ⟨(z::a::(aa sh)::aV 28),h,[],.no⟩ .ret ⟨[RS,YW,acJ,RU,YX,YY,(aa co),(aa co),YZ,Y2,NS,NT,NU,NV,NW,NX,NY,NZ,TY,TZ,T0,aei,aej,aek,ael,aem,aen,aeo,aep,aeq,(aa co)],hz,[],.no⟩:=
 aR (n:=200) (CN 3<|VV c2<|CC<|LL e4<|CN 2<|ZZ) k!
def BI (x:List Nat) (s:Nat):Nat→List Nat×Nat
 | 0=>([],0)
 | k+1=>((BI x s k).1++[x.getD k 0*2^s%18446744073709551616+(BI x s k).2],x.getD k 0/2^(64 - s))
theorem pE (x:List Nat) (s:Nat):∀k,(BI x s k).1.length=k
 | 0=>rfl
 | k+1=>by simp [BI,pE x s k]
theorem K9 {x:List Nat} {s:Nat} (wx:Words x) (hs:s<64):∀k,(BI x s k).2<2^s
 | 0=>Nat.pow_pos (by decide)
 | k+1=>by
  simp only[BI]
  rw[Nat.div_lt_iff_lt_mul (Nat.pow_pos (by decide)),←Nat.pow_add,show s+(64 - s)=64 by omega]
  exact wx.getD k
theorem BJ {call:aE} {h0:ah} {ds:List cC} {rc:RC} {z a:AV} {l:List Nat} {s:Nat} {p o n:Nat} {C:List AV} {f:TypeId} (hz:EL h0 z p o n C f) (hn:l.length≤n) (ha:ao env h0 .u64 54 a l) (oa:mj p a) (wl:Words l) (Xv:s<64) (po:0≤h0.nx):
 ∀(r k:Nat) (i:Int) (h:ah),k+r=l.length→i=(k:Nat)→nj h0 h p (.cells (setFrom C o (aA .u64 (BI l s k).1)) f false)→h.nx=h0.nx→∀(ca:Int) (x1 x3 x4 x5 x6 x8 x9 x13 x14 x15 x16 x17 x18 x19 x20 x21 x22 x23 x24 x25 x26 x27 x28 x29 x30:AV),ca=((BI l s k).2:Nat)→
  ∃h' y0 y1 y2 y3 y4 y5 y6 y7 y8 y9 gP vP sR By pO zM uk ET sP sQ EU KT KU KV KW KX KY KZ K0 K1 K2,Ev env call (.loop sd) ⟨[z,x1,(ae s),x3,x4,x5,x6,(aa ca),x8,x9,a,(af (l.length:Nat)),(af i),x13,x14,x15,x16,x17,x18,x19,x20,x21,x22,x23,x24,x25,x26,x27,x28,x29,x30],h,ds,rc⟩ (.exit 0) ⟨[y0,y1,y2,y3,y4,y5,y6,y7,y8,y9,gP,vP,sR,By,pO,zM,uk,ET,sP,sQ,EU,KT,KU,KV,KW,KX,KY,KZ,K0,K1,K2],h',ds,rc⟩∧y7= .int .u64 ((BI l s l.length).2:Nat)∧nj h0 h' p (.cells (setFrom C o (aA .u64 (BI l s l.length).1)) f false)∧h'.nx=h0.nx
 | 0,k,i,h,hk,hi,hc,hx,ca,x1,x3,x4,x5,x6,x8,x9,x13,x14,x15,x16,x17,x18,x19,x20,x21,x22,x23,x24,x25,x26,x27,x28,x29,x30,CI=>by
  obtain rfl:k=l.length:=by omega
  exact ⟨h,_,_,_,_,_,_,_,_,_,_,_,_,_,_,_,_,_,_,_,_,_,_,_,_,_,_,_,_,_,_,_,Ev.out (ID (dF o!)),by rw[CI],hc,hx⟩
 | r+1,k,i,h,hk,hi,hc,hx,ca,x1,x3,x4,x5,x6,x8,x9,x13,x14,x15,x16,x17,x18,x19,x20,x21,x22,x23,x24,x25,x26,x27,x28,x29,x30,CI=>by
  have hs:=ha.small
  have ha':=ha.chg hc oa
  obtain ⟨p1,q1,i1,l1⟩:=ha'.elem (fK (show k<l.length by omega))
  have RM:EL h z p o n (setFrom C o (aA .u64 (BI l s k).1)) f:=⟨hz.is,hc.2.1,by rw[cV];exact hz.fits⟩
  have j1:=RM.idx (E:=env) (e:=54) k! (show k<n by omega)
  have lt:=RM.fits
  have w2:=fS (i+1)
  have sL:(setFrom C o (aA .u64 (BI l s k).1)).set (o+k) (.int .u64 (((l.getD k 0*2^s%18446744073709551616+(BI l s k).2):Nat):Int))=setFrom C o (aA .u64 (BI l s (k+1)).1):=by
   simp only[BI]
   rw[th,mB,aM,pE]
  have b0:=K9 wl Xv k
  have b1:2^s≤2^63:=Nat.pow_le_pow_right (by decide) o!
  have c1:=gO (E:=env) 54 false false (l.getD k 0) s .u64 o!
  have c2:=lk (E:=env) 54 false false (l.getD k 0*2^s%18446744073709551616) (BI l s k).2 (Nat.mod_lt _ (by decide)) o!
  rw[TD o! b0] at c2
  have e64:IntKind.u64.wrap (64 -(s:Int))=((64 - s:Nat):Int):=by
   rw[qn _ o! o!];omega
  have c3:=cZ (E:=env) 54 false false (l.getD k 0) (64 - s) .u64 o!
  rw[←e64] at c3
  rw[←hi] at i1 j1
  rw[←CI] at c2
  obtain ⟨h1,vQ,c4,x1⟩:=IC (call:=call) (ds:=ds) (rc:=rc) (x1:=x1) (x3:=x3) (x4:=x4) (x5:=x5) (x6:=x6) (x8:=x8) (x9:=x9) (x13:=x13) (x14:=x14) (x15:=x15) (x16:=x16) (x17:=x17) (x18:=x18) (x19:=x19) (x20:=x20) (x21:=x21) (x22:=x22) (x23:=x23) (x24:=x24) (x25:=x25) (x26:=x26) (x27:=x27) (x28:=x28) (x29:=x29) (x30:=x30) (z:=z) (a:=a) (sh:=(s:Nat)) (ca:=ca) (i:=i) (n:=(l.length:Nat)) hc.1 o! (dT o!) i1 l1 c1 c2 j1 hc.2.1 o! c3 w2
  rw[sL] at c4
  obtain ⟨h',y0,y1,y2,y3,y4,y5,y6,y7,y8,y9,gP,vP,sR,By,pO,zM,uk,ET,sP,sQ,EU,KT,KU,KV,KW,KX,KY,KZ,K0,K1,K2,ev,hp⟩:=BJ hz hn ha oa wl Xv po r (k+1) (i+1) h1 o! o! (hc.trans c4) o! _ _ _ _ _ _ _ _ _ _ _ _ _ _ _ _ _ _ _ _ _ _ _ _ _ _ rfl
  exact ⟨h',y0,y1,y2,y3,y4,y5,y6,y7,y8,y9,gP,vP,sR,By,pO,zM,uk,ET,sP,sQ,EU,KT,KU,KV,KW,KX,KY,KZ,K0,K1,K2,Ev.loop vQ ev,hp⟩
theorem Jt {d:Nat} {h:ah} {z a:AV} {l:List Nat} {s:Nat} {p o n:Nat} {C:List AV} {f:TypeId} (hz:EL h z p o n C f) (hn:l.length≤n) (ha:ao env h .u64 54 a l) (oa:mj p a) (wl:Words l) (Xv:s<64) (hy:Tidy h) (po:0≤h.nx):
 ∃hk,aQ (d+1) (.fn 129) [z,a,.int .u64 (s:Int)] h= .ret (.int .u64 ((BI l s l.length).2:Nat)) hk∧nj h hk p (.cells (setFrom C o (aA .u64 (BI l s l.length).1)) f false)∧hk.nx=h.nx:=by
 obtain ⟨h1,y0,y1,y2,y3,y4,y5,y6,y7,y8,y9,gP,vP,sR,By,pO,zM,uk,ET,sP,sQ,EU,KT,KU,KV,KW,KX,KY,KZ,K0,K1,K2,ev,rfl,c1,x1⟩:=BJ (call:=aQ d) (ds:=[]) (rc:= .no) hz hn ha oa wl Xv po l.length 0 0 h o! rfl (nj.refl hy hz.get) rfl 0 _ _ _ _ _ _ _ _ _ _ _ _ _ _ _ _ _ _ _ _ _ _ _ _ _ rfl
 exact dQ rfl (az Tryz.func129 VQ k! (.inr rfl) (R4 hy po c1.1 o! ha.len ev) k!) c1 hy hz.get x1
noncomputable def qA:Code:=(Tryz.f131.body).getD .skip
theorem N8:Tryz.f131.body=some qA:=by kernel_rfl
noncomputable def sX:Code:=(aY qA).getD 0 .skip
theorem drop_cons {l:List Nat} {j:Nat} (hj:j<l.length):l.drop j=l.getD j 0::l.drop (j+1):=by
 rw[List.drop_eq_getElem_cons hj,List.getD_eq_getElem?_getD,List.getElem?_eq_getElem hj];rfl
theorem acR {w T s W:Nat} (hs:s<64) (hw:w<18446744073709551616) (hW:W=T/2^s):
 (w/2^s+T%2^s*2^(64 - s))+18446744073709551616*W=(w+18446744073709551616*T) /2^s∧w/2^s+T%2^s*2^(64 - s)<18446744073709551616∧w*2^(64 - s)%18446744073709551616=(w+18446744073709551616*T)%2^s*2^(64 - s):=by
 subst hW
 have hB:(18446744073709551616:Nat)=2^(64 - s)*2^s:=by rw[←Nat.pow_add,Nat.sub_add_cancel o!]
 have hp:0<2^s:=Nat.pow_pos (by decide)
 have hq:0<2^(64 - s):=Nat.pow_pos (by decide)
 generalize 2^s=P at *
 generalize 2^(64 - s)=Q at *
 have e1:(w+18446744073709551616*T) /P=w/P+Q*T:=by
  rw[hB,show Q*P*T=P*(Q*T) by rw[Nat.mul_comm Q P,Nat.mul_assoc],Nat.add_mul_div_left _ _ hp]
 have e2:Q*T=Q*(P*(T/P))+Q*(T%P):=by rw[←Nat.mul_add,Nat.div_add_mod]
 have e3:18446744073709551616*(T/P)=Q*(P*(T/P)):=by rw[hB,Nat.mul_assoc]
 have e4:T%P*Q=Q*(T%P):=Nat.mul_comm _ _
 refine ⟨by rw[e1,e3,e4];omega,?_,?_⟩
 · have h1:w/P<Q:=by rw[Nat.div_lt_iff_lt_mul hp,←hB];exact hw
   have h2:T%P+1≤P:=Nat.mod_lt _ hp
   have h3:=Nat.mul_le_mul_left Q h2
   rw[←hB,Nat.mul_add,Nat.mul_one] at h3
   rw[e4];omega
 · rw[hB,Nat.mul_comm Q P,Nat.mul_mod_mul_right,show P*Q*T=P*(Q*T) by rw[Nat.mul_assoc],Nat.add_mul_mod_self_left]
theorem wT {d:Nat} {hs:ah} {ds:List cC} {rc:RC} {l:List Nat} {s p o n c:Nat} {op:Bool} {C:List AV} {f:TypeId} (wl:Words l) (Xv:s<64) (hn:l.length=n) (gD:n<2^60) (hf:o+n≤C.length):
 ∀(k:Nat) (h:ah) (v:Int) (Qp:Nat) (ws:List Nat),k≤n→v=(k:Nat) - 1→Words ws→ws.length+k=n→ay ws=ay (l.drop k) /2^s→Qp=ay (l.drop k)%2^s*2^(64 - s)→Tidy h→Kept p hs h→h.nx=hs.nx→h.get p=some (.cells (setFrom C o (aA .u64 (l.take k++ws))) f false)→∀x:Nat→AV,
  ∃h',(∃y:Nat→AV,Ev env (aQ d) (.loop sX) ⟨((AV.slice p o n c op)::(AV.slice p o n c op)::(ae s)::rx x 3 3 ((ae Qp)::(af v)::rx x 8 24 [])),h,ds,rc⟩ (.exit 0) ⟨((AV.slice p o n c op)::(AV.slice p o n c op)::rx y 2 30 []),h',ds,rc⟩)∧∃ws,ws.length=n∧Words ws∧ay ws=ay l/2^s∧Tidy h'∧Kept p hs h'∧h'.nx=hs.nx∧h'.get p=some (.cells (setFrom C o (aA .u64 ws)) f false)
 | 0,h,v,Qp,ws,hk,hv,ww,hl,hw,hi,aw,kp,hx,hg,x=>by
  have q1:=cI (0≤v)
  have ev:=vG (d) sX ((AV.slice p o n c op)::(AV.slice p o n c op)::(ae s)::rx x 3 3 ((ae Qp)::(af v)::rx x 8 24 [])) h ds rc (.exit 0) h (CC<|VV (bV 3 false true .i64 v 0)<|BB q1<|ZZ) k!
  rw[List.drop_zero] at hw
  rw[List.take_zero,List.nil_append] at hg
  exact ⟨h,cT (Ev.out ev) k!,ws,by omega,ww,hw,aw,kp,hx,hg⟩
 | k+1,h,v,Qp,ws,hk,hv,ww,hl,hw,hi,aw,kp,hx,hg,x=>by
  obtain ⟨D,hD⟩:∃D,D=l.take (k+1)++ws:=⟨_,rfl⟩
  rw[←hD] at hg
  have Q3:k<l.length:=by omega
  have GC:D.length=n:=by rw[hD];simp;omega
  have Qm:D.getD k 0=l.getD k 0:=by
   rw[hD,List.getD_eq_getElem?_getD,List.getElem?_append_left (by simp;omega),List.getElem?_take_of_lt o!,←List.getD_eq_getElem?_getD]
  have bw:D.getD k 0<18446744073709551616:=by rw[Qm];exact wl.getD k
  have hP:0<2^s:=Nat.pow_pos (by decide)
  obtain ⟨s1,s2,s3⟩:=acR (T:=ay (l.drop (k+1))) Xv bw hw
  rw[←hi] at s1 s2
  have bin:Qp<18446744073709551616:=Nat.lt_of_le_of_lt (Nat.le_add_left _ _) s2
  have bd:D.getD k 0/2^s<18446744073709551616:=Nat.lt_of_le_of_lt (Nat.div_le_self _ _) bw
  have edv:ay (l.drop k)=D.getD k 0+18446744073709551616*ay (l.drop (k+1)):=by rw[drop_cons Q3,ay,Qm]
  have q1:=dg (0≤v)
  have ix2:bq env (some (.slice 54)) (some (AV.slice p o n c op)) (some (af v))=some (AV.ptr p (o+k)):=a8 k! (show k<n by omega) o!
  have ld3:bk env h 54 (AV.ptr p (o+k))=some (ae (D.getD k 0)):=ku k! o! hg (show k<D.length by omega)
  have u4:aI env .shr 54 false false (some (ae (D.getD k 0))) (some (ae s))=some (ae ((D.getD k 0) /2^s)):=cZ _ _ _ _ _ _ o!
  have u5:aI env .or 54 false false (some (ae ((D.getD k 0) /2^s))) (some (ae Qp))=some (ae (((D.getD k 0) /2^s)||| Qp)):=lk _ _ _ _ _ o! o!
  have R5:bq env (some (.slice 54)) (some (AV.slice p o n c op)) (some (af v))=some (AV.ptr p (o+k)):=a8 k! (show k<n by omega) o!
  obtain ⟨h7,AF,BK,eC,EV⟩:=iJ 54 k (((D.getD k 0) /2^s)||| Qp) aw o! hg (show k<D.length by omega)
  have eJ:Kept p h h7:=BK.2.2
  have u8:=M3 194 true false 64 s
  have u9:aI env .shl 54 false false (some (ae (D.getD k 0))) (some (ae (64 - s)))=some (ae ((D.getD k 0)*2^(64 - s)%18446744073709551616)):=gO _ _ _ _ _ _ o!
  have w10:=fS (v - 1)
  have ev:=vG (d) sX ((AV.slice p o n c op)::(AV.slice p o n c op)::(ae s)::rx x 3 3 ((ae Qp)::(af v)::rx x 8 24 [])) h ds rc .normal h7 (CC<|VV (bV 3 false true .i64 v 0)<|BB q1<|CN 2<|VV ix2<|MM ld3<|CN 5<|VV u4<|CC<|VV u5<|VV R5<|SS AF<|CN 2<|VV u8<|VV u9<|CN 2<|VV (bT 3 false true w10)<|CC<|ZZ) k!
  have eor:(D.getD k 0/2^s||| Qp)=D.getD k 0/2^s+Qp:=by
   have:=TD (x:=ay (l.drop (k+1))%2^s) (n:=64 - s) (b:=D.getD k 0/2^s) o! (by rw[Nat.div_lt_iff_lt_mul hP,←Nat.pow_add,Nat.sub_add_cancel o!];exact bw)
   rw[←hi,Nat.mod_eq_of_lt bin] at this
   rw[Nat.or_comm,this,Nat.add_comm]
  rw[eor] at BK
  have eD:D.set k (D.getD k 0/2^s+Qp)=l.take k++(D.getD k 0/2^s+Qp)::ws:=by
   generalize D.getD k 0/2^s+Qp=V
   have IZ:(l.take k).length=k:=by simp;omega
   rw[hD,tC Q3,List.append_assoc,List.set_append_right _ _ o!,IZ,Nat.sub_self]
   rfl
  have g1:=BK.2.1
  rw[eD] at g1
  refine dj ev k! fun x=>wT wl Xv hn gD hf k h7 (v - 1) (D.getD k 0*2^(64 - s)%18446744073709551616) ((D.getD k 0/2^s+Qp)::ws) o! o! (fun w hw=>?_) (by simp;omega) (by rw[ay,edv,s1]) (by rw[s3,edv]) eC (kp.trans eJ) o! g1 x
  rcases List.mem_cons.1 hw with rfl | hw
  · exact s2
  · exact ww w hw
theorem N9 {d:Nat} {h:ah} {l:List Nat} {s p o n c:Nat} {op:Bool} {C:List AV} {f:TypeId} (wl:Words l) (Xv:s<64) (hn:l.length=n) (gD:n<2^60) (hf:o+n≤C.length) (hC:Holds .u64 C o l) (hg:h.get p=some (.cells C f false)) (aw:Tidy h):
 ∃ws hk,aQ (d+1) (.fn 131) [.slice p o n c op,.slice p o n c op,.int .u64 (s:Nat)] h= .ret (.tuple []) hk∧nj h hk p (.cells (setFrom C o (aA .u64 ws)) f false)∧hk.nx=h.nx∧ws.length=n∧Words ws∧ay ws=ay l/2^s:=by
 have uR:h.get p=some (.cells (setFrom C o (aA .u64 (l.take n++[]))) f false):=by
  rw[List.append_nil,List.take_of_length_le o!,KP hC];exact hg
 have Mx:l.drop n=[]:=List.drop_of_length_le o!
 have w1:=fS ((n:Int) - 1)
 obtain ⟨h3,⟨yl2,RZ⟩,ws,lw,ww,vw,bt,aX,ky,eb⟩:=wT (d:=d) (hs:=h) (ds:=[]) (rc:= .no) (c:=c) (op:=op) wl Xv hn gD hf n h ((n:Int) - 1) 0 [] (Nat.le_refl _) rfl Words.nil (by simp) (by rw[Mx];simp [ay]) (by rw[Mx];simp [ay]) aw (Kept.refl _ _) rfl uR (fun k_=>(((AV.slice p o n c op)::(AV.slice p o n c op)::(ae s)::aB::aB::aB::(aa 0)::(af ((n:Int) - 1))::aB::(AV.slice p o n c op)::(ag n)::(af ((n:Int) - 1))::aV 20):List AV).getD k_ aB)
 have ev:=pk (d) qA ((AV.slice p o n c op)::(AV.slice p o n c op)::(ae s)::aV 29) h .normal h3 (CN 3<|VV (bT 3 false true w1)<|CC<|LL RZ<|ZZ) k!
 exact ⟨ws,dQ rfl (az Tryz.func131 N8 k! (.inl rfl) ev k!) ⟨bt,eb,aX⟩ aw hg ky|>.elim fun hk e=>⟨hk,e.1,e.2.1,e.2.2,lw,ww,vw⟩⟩
def len8tab:List UInt8:=[0,1,2,2,3,3,3,3,4,4,4,4,4,4,4,4,5,5,5,5,5,5,5,5,5,5,5,5,5,5,5,5,6,6,6,6,6,6,6,6,6,6,6,6,6,6,6,6,6,6,6,6,6,6,6,6,6,6,6,6,6,6,6,6,7,7,7,7,7,7,7,7,7,7,7,7,7,7,7,7,7,7,7,7,7,7,7,7,7,7,7,7,7,7,7,7,7,7,7,7,7,7,7,7,7,7,7,7,7,7,7,7,7,7,7,7,7,7,7,7,7,7,7,7,7,7,7,7,8,8,8,8,8,8,8,8,8,8,8,8,8,8,8,8,8,8,8,8,8,8,8,8,8,8,8,8,8,8,8,8,8,8,8,8,8,8,8,8,8,8,8,8,8,8,8,8,8,8,8,8,8,8,8,8,8,8,8,8,8,8,8,8,8,8,8,8,8,8,8,8,8,8,8,8,8,8,8,8,8,8,8,8,8,8,8,8,8,8,8,8,8,8,8,8,8,8,8,8,8,8,8,8,8,8,8,8,8,8,8,8,8,8,8,8,8,8,8,8,8,8,8,8,8,8,8,8]
noncomputable def iV:Code:=(Tryz.f132.body).getD .skip
theorem se:Tryz.f132.body=some iV:=by kernel_rfl
theorem Zc {call:aE} {h:ah} {x:Int} {u2 u5 u8 gP:Int} (q1:(decide (4294967296≤x))=true) (c3:aI env .shr 54 false true (some (aa x)) (some (aa 32))=some (aa u2)) (q4:(decide (65536≤u2))=true) (c6:aI env .shr 54 false true (some (aa u2)) (some (aa 16))=some (aa u5)) (q7:(decide (256≤u5))=true) (c9:aI env .shr 54 false true (some (aa u5)) (some (aa 8))=some (aa u8)) (IE:pv env (some .string) (some (AV.str len8tab)) (some (bj (IntKind.u8.wrap u8)))=some (bj gP)) (N_:IntKind.i64.wrap (56+(IntKind.i64.wrap gP))=56+(IntKind.i64.wrap gP)):
 Ev env call iV ⟨((aa x)::aV 24),h,[],.no⟩ .ret ⟨[(aa u8),aB,(af (56+(IntKind.i64.wrap gP))),(aa x),(aj (decide (4294967296≤x))),(aa x),(aa u2),(aa u2),(aj (decide (65536≤u2))),(aa u2),(aa u5),(af 32),(af 48),(aa u5),(aj (decide (256≤u5))),(aa u5),(aa u8),(af 48),(af 56),(af 56),(aa u8),(bj (IntKind.u8.wrap u8)),(bj gP),(af (IntKind.i64.wrap gP)),(af (56+(IntKind.i64.wrap gP)))],h,[],.no⟩:=
 aR (n:=200) (CN 2<|VV (bV 54 false true .u64 x 4294967296)<|BB q1<|CC<|VV c3<|CN 3<|VV (bV 54 false true .u64 u2 65536)<|BB q4<|CC<|VV c6<|CN 5<|VV (bV 54 false true .u64 u5 256)<|BB q7<|CC<|VV c9<|CN 7<|VV IE<|CC<|VV (iI 3 false false N_)<|CC<|ZZ) k!
theorem Zd {call:aE} {h:ah} {x:Int} {u2 u5 y8:Int} (q1:(decide (4294967296≤x))=true) (c3:aI env .shr 54 false true (some (aa x)) (some (aa 32))=some (aa u2)) (q4:(decide (65536≤u2))=true) (c6:aI env .shr 54 false true (some (aa u2)) (some (aa 16))=some (aa u5)) (q7:(decide (256≤u5))=false) (c9:pv env (some .string) (some (AV.str len8tab)) (some (bj (IntKind.u8.wrap u5)))=some (bj y8)) (w10:IntKind.i64.wrap (48+(IntKind.i64.wrap y8))=48+(IntKind.i64.wrap y8)):
 Ev env call iV ⟨((aa x)::aV 24),h,[],.no⟩ .ret ⟨[(aa u5),aB,(af (48+(IntKind.i64.wrap y8))),(aa x),(aj (decide (4294967296≤x))),(aa x),(aa u2),(aa u2),(aj (decide (65536≤u2))),(aa u2),(aa u5),(af 32),(af 48),(aa u5),(aj (decide (256≤u5))),aB,aB,aB,aB,(af 48),(aa u5),(bj (IntKind.u8.wrap u5)),(bj y8),(af (IntKind.i64.wrap y8)),(af (48+(IntKind.i64.wrap y8)))],h,[],.no⟩:=
 aR (n:=200) (CN 2<|VV (bV 54 false true .u64 x 4294967296)<|BB q1<|CC<|VV c3<|CN 3<|VV (bV 54 false true .u64 u2 65536)<|BB q4<|CC<|VV c6<|CN 5<|VV (bV 54 false true .u64 u5 256)<|BB q7<|CN 3<|VV c9<|CC<|VV (iI 3 false false w10)<|CC<|ZZ) k!
theorem Ze {call:aE} {h:ah} {x:Int} {u2 u6 y8:Int} (q1:(decide (4294967296≤x))=true) (c3:aI env .shr 54 false true (some (aa x)) (some (aa 32))=some (aa u2)) (q4:(decide (65536≤u2))=false) (q5:(decide (256≤u2))=true) (c7:aI env .shr 54 false true (some (aa u2)) (some (aa 8))=some (aa u6)) (c9:pv env (some .string) (some (AV.str len8tab)) (some (bj (IntKind.u8.wrap u6)))=some (bj y8)) (w10:IntKind.i64.wrap (40+(IntKind.i64.wrap y8))=40+(IntKind.i64.wrap y8)):
 Ev env call iV ⟨((aa x)::aV 24),h,[],.no⟩ .ret ⟨[(aa u6),aB,(af (40+(IntKind.i64.wrap y8))),(aa x),(aj (decide (4294967296≤x))),(aa x),(aa u2),(aa u2),(aj (decide (65536≤u2))),aB,aB,aB,aB,(aa u2),(aj (decide (256≤u2))),(aa u2),(aa u6),(af 32),(af 40),(af 40),(aa u6),(bj (IntKind.u8.wrap u6)),(bj y8),(af (IntKind.i64.wrap y8)),(af (40+(IntKind.i64.wrap y8)))],h,[],.no⟩:=
 aR (n:=200) (CN 2<|VV (bV 54 false true .u64 x 4294967296)<|BB q1<|CC<|VV c3<|CN 3<|VV (bV 54 false true .u64 u2 65536)<|BB q4<|CC<|VV (bV 54 false true .u64 u2 256)<|BB q5<|CC<|VV c7<|CN 7<|VV c9<|CC<|VV (iI 3 false false w10)<|CC<|ZZ) k!
theorem Zf {call:aE} {h:ah} {x:Int} {u2 y6:Int} (q1:(decide (4294967296≤x))=true) (c3:aI env .shr 54 false true (some (aa x)) (some (aa 32))=some (aa u2)) (q4:(decide (65536≤u2))=false) (q5:(decide (256≤u2))=false) (c7:pv env (some .string) (some (AV.str len8tab)) (some (bj (IntKind.u8.wrap u2)))=some (bj y6)) (w8:IntKind.i64.wrap (32+(IntKind.i64.wrap y6))=32+(IntKind.i64.wrap y6)):
 Ev env call iV ⟨((aa x)::aV 24),h,[],.no⟩ .ret ⟨[(aa u2),aB,(af (32+(IntKind.i64.wrap y6))),(aa x),(aj (decide (4294967296≤x))),(aa x),(aa u2),(aa u2),(aj (decide (65536≤u2))),aB,aB,aB,aB,(aa u2),(aj (decide (256≤u2))),aB,aB,aB,aB,(af 32),(aa u2),(bj (IntKind.u8.wrap u2)),(bj y6),(af (IntKind.i64.wrap y6)),(af (32+(IntKind.i64.wrap y6)))],h,[],.no⟩:=
 aR (n:=200) (CN 2<|VV (bV 54 false true .u64 x 4294967296)<|BB q1<|CC<|VV c3<|CN 3<|VV (bV 54 false true .u64 u2 65536)<|BB q4<|CC<|VV (bV 54 false true .u64 u2 256)<|BB q5<|CN 3<|VV c7<|CC<|VV (iI 3 false false w8)<|CC<|ZZ) k!
theorem Zg {call:aE} {h:ah} {x:Int} {u3 u6 y8:Int} (q1:(decide (4294967296≤x))=false) (q2:(decide (65536≤x))=true) (c4:aI env .shr 54 false true (some (aa x)) (some (aa 16))=some (aa u3)) (q5:(decide (256≤u3))=true) (c7:aI env .shr 54 false true (some (aa u3)) (some (aa 8))=some (aa u6)) (c9:pv env (some .string) (some (AV.str len8tab)) (some (bj (IntKind.u8.wrap u6)))=some (bj y8)) (w10:IntKind.i64.wrap (24+(IntKind.i64.wrap y8))=24+(IntKind.i64.wrap y8)):
 Ev env call iV ⟨((aa x)::aV 24),h,[],.no⟩ .ret ⟨[(aa u6),aB,(af (24+(IntKind.i64.wrap y8))),(aa x),(aj (decide (4294967296≤x))),aB,aB,(aa x),(aj (decide (65536≤x))),(aa x),(aa u3),(af 0),(af 16),(aa u3),(aj (decide (256≤u3))),(aa u3),(aa u6),(af 16),(af 24),(af 24),(aa u6),(bj (IntKind.u8.wrap u6)),(bj y8),(af (IntKind.i64.wrap y8)),(af (24+(IntKind.i64.wrap y8)))],h,[],.no⟩:=
 aR (n:=200) (CN 2<|VV (bV 54 false true .u64 x 4294967296)<|BB q1<|CC<|VV (bV 54 false true .u64 x 65536)<|BB q2<|CC<|VV c4<|CN 5<|VV (bV 54 false true .u64 u3 256)<|BB q5<|CC<|VV c7<|CN 7<|VV c9<|CC<|VV (iI 3 false false w10)<|CC<|ZZ) k!
theorem Zh {call:aE} {h:ah} {x:Int} {u3 y6:Int} (q1:(decide (4294967296≤x))=false) (q2:(decide (65536≤x))=true) (c4:aI env .shr 54 false true (some (aa x)) (some (aa 16))=some (aa u3)) (q5:(decide (256≤u3))=false) (c7:pv env (some .string) (some (AV.str len8tab)) (some (bj (IntKind.u8.wrap u3)))=some (bj y6)) (w8:IntKind.i64.wrap (16+(IntKind.i64.wrap y6))=16+(IntKind.i64.wrap y6)):
 Ev env call iV ⟨((aa x)::aV 24),h,[],.no⟩ .ret ⟨[(aa u3),aB,(af (16+(IntKind.i64.wrap y6))),(aa x),(aj (decide (4294967296≤x))),aB,aB,(aa x),(aj (decide (65536≤x))),(aa x),(aa u3),(af 0),(af 16),(aa u3),(aj (decide (256≤u3))),aB,aB,aB,aB,(af 16),(aa u3),(bj (IntKind.u8.wrap u3)),(bj y6),(af (IntKind.i64.wrap y6)),(af (16+(IntKind.i64.wrap y6)))],h,[],.no⟩:=
 aR (n:=200) (CN 2<|VV (bV 54 false true .u64 x 4294967296)<|BB q1<|CC<|VV (bV 54 false true .u64 x 65536)<|BB q2<|CC<|VV c4<|CN 5<|VV (bV 54 false true .u64 u3 256)<|BB q5<|CN 3<|VV c7<|CC<|VV (iI 3 false false w8)<|CC<|ZZ) k!
theorem Zi {call:aE} {h:ah} {x:Int} {u4 y6:Int} (q1:(decide (4294967296≤x))=false) (q2:(decide (65536≤x))=false) (q3:(decide (256≤x))=true) (c5:aI env .shr 54 false true (some (aa x)) (some (aa 8))=some (aa u4)) (c7:pv env (some .string) (some (AV.str len8tab)) (some (bj (IntKind.u8.wrap u4)))=some (bj y6)) (w8:IntKind.i64.wrap (8+(IntKind.i64.wrap y6))=8+(IntKind.i64.wrap y6)):
 Ev env call iV ⟨((aa x)::aV 24),h,[],.no⟩ .ret ⟨[(aa u4),aB,(af (8+(IntKind.i64.wrap y6))),(aa x),(aj (decide (4294967296≤x))),aB,aB,(aa x),(aj (decide (65536≤x))),aB,aB,aB,aB,(aa x),(aj (decide (256≤x))),(aa x),(aa u4),(af 0),(af 8),(af 8),(aa u4),(bj (IntKind.u8.wrap u4)),(bj y6),(af (IntKind.i64.wrap y6)),(af (8+(IntKind.i64.wrap y6)))],h,[],.no⟩:=
 aR (n:=200) (CN 2<|VV (bV 54 false true .u64 x 4294967296)<|BB q1<|CC<|VV (bV 54 false true .u64 x 65536)<|BB q2<|CC<|VV (bV 54 false true .u64 x 256)<|BB q3<|CC<|VV c5<|CN 7<|VV c7<|CC<|VV (iI 3 false false w8)<|CC<|ZZ) k!
theorem Zj {call:aE} {h:ah} {x:Int} {y4:Int} (q1:(decide (4294967296≤x))=false) (q2:(decide (65536≤x))=false) (q3:(decide (256≤x))=false) (c5:pv env (some .string) (some (AV.str len8tab)) (some (bj (IntKind.u8.wrap x)))=some (bj y4)) (w6:IntKind.i64.wrap (0+(IntKind.i64.wrap y4))=0+(IntKind.i64.wrap y4)):
 Ev env call iV ⟨((aa x)::aV 24),h,[],.no⟩ .ret ⟨[(aa x),aB,(af (0+(IntKind.i64.wrap y4))),(aa x),(aj (decide (4294967296≤x))),aB,aB,(aa x),(aj (decide (65536≤x))),aB,aB,aB,aB,(aa x),(aj (decide (256≤x))),aB,aB,aB,aB,(af 0),(aa x),(bj (IntKind.u8.wrap x)),(bj y4),(af (IntKind.i64.wrap y4)),(af (0+(IntKind.i64.wrap y4)))],h,[],.no⟩:=
 aR (n:=200) (CN 2<|VV (bV 54 false true .u64 x 4294967296)<|BB q1<|CC<|VV (bV 54 false true .u64 x 65536)<|BB q2<|CC<|VV (bV 54 false true .u64 x 256)<|BB q3<|CN 3<|VV c5<|CC<|VV (iI 3 false false w6)<|CC<|ZZ) k!
noncomputable def o6:Code:=(Tryz.f86.body).getD .skip
theorem Di:Tryz.f86.body=some o6:=by kernel_rfl
theorem BL {call:aE} {h:ah} {x:Int} {y1:Int} (aw:Tidy h) (ES:0≤h.nx) (k2:∀hh,Tidy hh→Has h hh→(h.nx≤hh.nx∧0≤hh.nx)→call (.fn 132) [(aa x)] hh= .ret (af y1) hh) (w3:IntKind.i64.wrap (64 - y1)=64 - y1):
 Ev env call o6 ⟨((aa x)::aV 5),h,[],.no⟩ .ret ⟨[(aa x),aB,(af (64 - y1)),(aa x),(af y1),(af (64 - y1))],h,[],.no⟩:=
 aR (n:=200) (CN 2<|EE (show call (.fn 132) [(aa x)] h= .ret (af y1) h from k2 _ aw (Has.refl _) ⟨by omega,by omega⟩)<|VV (bT 3 true false w3)<|CC<|ZZ) k!
def rL (x L:Nat):Prop:=(x=0∧L=0)∨(0<L∧2^(L - 1)≤x∧x<2^L)
theorem af5:((List.range 256).all fun u=>match len8tab[u]? with
 | some b=>(decide (u=0)&&decide (b.toNat=0))||(decide (0<b.toNat)&&decide (b.toNat≤8)&&decide (2^(b.toNat - 1)≤u)&&decide (u<2^b.toNat))
 | none=>false)=true:=by decide+kernel
theorem sf (u:Nat) (hu:u<256):∃t:Nat,pv env (some .string) (some (.str len8tab)) (some (.int .u8 (IntKind.u8.wrap (u:Int))))=some (.int .u8 (t:Int))∧rL u t∧t≤8:=by
 have h:=List.all_eq_true.1 af5 u (List.mem_range.2 hu)
 cases hb:len8tab[u]? with
 | none=>rw[hb] at h;cases h
 | some b=>
  rw[hb] at h
  have hw:IntKind.u8.wrap (u:Int)=(u:Int):=by
   show (if (false&&decide ((u:Int)%2^8≥2^7))=true then (u:Int)%2^8 - 2^8 else (u:Int)%2^8)=_
   rw[if_neg (by simp)]
   omega
  refine ⟨b.toNat,?_,?_⟩
  · rw[hw]
    simp only[pv]
    rw[if_pos o!,Int.toNat_natCast,hb]
  · simp only[Bool.or_eq_true,Bool.and_eq_true,decide_eq_true_eq] at h
    rcases h with ⟨h1,h2⟩ | ⟨⟨⟨h1,h2⟩,h3⟩,h4⟩
    · exact ⟨.inl ⟨h1,h2⟩,by omega⟩
    · exact ⟨.inr ⟨h1,h3,h4⟩,h2⟩
theorem rL.up {x s t:Nat} (h:rL (x/2^s) t) (hx:x/2^s≠0):rL x (s+t):=by
 rcases h with ⟨h1,_⟩ | ⟨h1,h2,h3⟩
 · exact absurd h1 hx
 · refine .inr ⟨by omega,?_,?_⟩
   · have:=(Nat.le_div_iff_mul_le (Nat.pow_pos (n:=s) (by decide:0<2))).1 h2
     rw[←Nat.pow_add] at this
     rwa [show s+t - 1=t - 1+s by omega]
   · rw[Nat.div_lt_iff_lt_mul (Nat.pow_pos (by decide)),←Nat.pow_add] at h3
     rwa [Nat.add_comm]
theorem rL.le {x L:Nat} (h:rL x L) (hx:x<18446744073709551616):L≤64:=by
 rcases h with ⟨_,h⟩ | ⟨h1,h2,h3⟩
 · omega
 · have:2^(L - 1)<2^64:=by omega
   have:=(Nat.pow_lt_pow_iff_right (by decide:1<2)).1 this
   omega
theorem K_ {d:Nat} {h:ah} (x:Nat) (hx:x<18446744073709551616):∃L:Nat,aQ (d+1) (.fn 132) [.int .u64 (x:Int)] h= .ret (.int .i64 (L:Int)) h∧rL x L∧L≤64:=by
 have fin:∀{v:Int} (L:Nat),rL x L→v=(L:Int)→mz env (aQ d) 132 [.int .u64 (x:Int)] h (.int .i64 v) h→∃L:Nat,aQ (d+1) (.fn 132) [.int .u64 (x:Int)] h= .ret (.int .i64 (L:Int)) h∧rL x L∧L≤64:=by
  intro v L hL hv hd
  subst hv
  exact ⟨L,ai rfl hd (Has.refl h) rfl,hL,hL.le hx⟩
 have s32:=fun y=>cZ (E:=env) 54 false true y 32 .u64 (by decide)
 have s16:=fun y=>cZ (E:=env) 54 false true y 16 .u64 (by decide)
 have s8:=fun y=>cZ (E:=env) 54 false true y 8 .u64 (by decide)
 have wr:∀(n t:Nat),n≤56→t≤8→IntKind.i64.wrap ((n:Int)+IntKind.i64.wrap (t:Int))=(n:Int)+IntKind.i64.wrap (t:Int)∧(n:Int)+IntKind.i64.wrap (t:Int)=((n+t:Nat):Int):=by
  intro n t h1 h2
  rw[wrap_i64 (n:=(t:Int)) o! o!]
  exact ⟨wrap_i64 o! o!,by omega⟩
 by_cases q1:4294967296≤x
 · by_cases q2:65536≤x/2^32
   · by_cases q3:256≤x/2^32/2^16
     · obtain ⟨t,i1,b1,t8⟩:=sf (x/2^32/2^16/2^8) o!
       obtain ⟨w1,w2⟩:=wr 56 t (by decide) t8
       exact fin (32+(16+(8+t))) ((((b1.up o!).up o!).up o!)) (w2.trans o!) (az Tryz.func132 se k! (.inr rfl) (Zc (dT o!) (s32 x) (dT o!) (s16 _) (dT o!) (s8 _) i1 w1) k!)
     · obtain ⟨t,i1,b1,t8⟩:=sf (x/2^32/2^16) o!
       obtain ⟨w1,w2⟩:=wr 48 t (by decide) t8
       exact fin (32+(16+t)) (((b1.up o!).up o!)) (w2.trans o!) (az Tryz.func132 se k! (.inr rfl) (Zd (dT o!) (s32 x) (dT o!) (s16 _) (dF o!) i1 w1) k!)
   · by_cases q3:256≤x/2^32
     · obtain ⟨t,i1,b1,t8⟩:=sf (x/2^32/2^8) o!
       obtain ⟨w1,w2⟩:=wr 40 t (by decide) t8
       exact fin (32+(8+t)) (((b1.up o!).up o!)) (w2.trans o!) (az Tryz.func132 se k! (.inr rfl) (Ze (dT o!) (s32 x) (dF o!) (dT o!) (s8 _) i1 w1) k!)
     · obtain ⟨t,i1,b1,t8⟩:=sf (x/2^32) o!
       obtain ⟨w1,w2⟩:=wr 32 t (by decide) t8
       exact fin (32+t) ((b1.up o!)) (w2.trans o!) (az Tryz.func132 se k! (.inr rfl) (Zf (dT o!) (s32 x) (dF o!) (dF o!) i1 w1) k!)
 · by_cases q2:65536≤x
   · by_cases q3:256≤x/2^16
     · obtain ⟨t,i1,b1,t8⟩:=sf (x/2^16/2^8) o!
       obtain ⟨w1,w2⟩:=wr 24 t (by decide) t8
       exact fin (16+(8+t)) (((b1.up o!).up o!)) (w2.trans o!) (az Tryz.func132 se k! (.inr rfl) (Zg (dF o!) (dT o!) (s16 x) (dT o!) (s8 _) i1 w1) k!)
     · obtain ⟨t,i1,b1,t8⟩:=sf (x/2^16) o!
       obtain ⟨w1,w2⟩:=wr 16 t (by decide) t8
       exact fin (16+t) ((b1.up o!)) (w2.trans o!) (az Tryz.func132 se k! (.inr rfl) (Zh (dF o!) (dT o!) (s16 x) (dF o!) i1 w1) k!)
   · by_cases q3:256≤x
     · obtain ⟨t,i1,b1,t8⟩:=sf (x/2^8) o!
       obtain ⟨w1,w2⟩:=wr 8 t (by decide) t8
       exact fin (8+t) ((b1.up o!)) (w2.trans o!) (az Tryz.func132 se k! (.inr rfl) (Zi (dF o!) (dF o!) (dT o!) (s8 x) i1 w1) k!)
     · obtain ⟨t,i1,b1,t8⟩:=sf x o!
       obtain ⟨w1,w2⟩:=wr 0 t (by decide) t8
       exact fin t b1 (w2.trans o!) (az Tryz.func132 se k! (.inr rfl) (Zj (dF o!) (dF o!) (dF o!) i1 w1) k!)
theorem rL.unique {x M L:Nat} (g2:rL x M) (h2:rL x L):M=L:=by
 rcases h2 with ⟨a1,a2⟩ | ⟨a1,a2,a3⟩<;>rcases g2 with ⟨b1,b2⟩ | ⟨b1,b2,b3⟩
 · omega
 · have:0<2^(M - 1):=Nat.pow_pos (by decide)
   omega
 · have:0<2^(L - 1):=Nat.pow_pos (by decide)
   omega
 · have c1:L - 1<M:=(Nat.pow_lt_pow_iff_right (by decide:1<2)).1 (Nat.lt_of_le_of_lt a2 b3)
   have c2:M - 1<L:=(Nat.pow_lt_pow_iff_right (by decide:1<2)).1 (Nat.lt_of_le_of_lt b2 a3)
   omega
theorem dU {d:Nat} {h:ah} (x:Nat) (hx:x<18446744073709551616) (hy:Tidy h) (po:0≤h.nx):∃L:Nat,aQ (d+2) (.fn 86) [.int .u64 (x:Int)] h= .ret (.int .i64 ((64 - L:Nat):Int)) h∧rL x L∧L≤64:=by
 obtain ⟨L,h1,h2,h3⟩:=K_ (d:=d) (h:=h) x hx
 have h4:∀hh,aQ (d+1) (.fn 132) [.int .u64 (x:Int)] hh= .ret (.int .i64 (L:Int)) hh:=fun hh=>by
  obtain ⟨M,g1,g2,g3⟩:=K_ (d:=d) (h:=hh) x hx
  have:M=L:=by
   rcases h2 with ⟨a1,a2⟩ | ⟨a1,a2,a3⟩<;>rcases g2 with ⟨b1,b2⟩ | ⟨b1,b2,b3⟩
   · omega
   · have:0<2^(M - 1):=Nat.pow_pos (by decide)
     omega
   · have:0<2^(L - 1):=Nat.pow_pos (by decide)
     omega
   · have c1:L - 1<M:=(Nat.pow_lt_pow_iff_right (by decide:1<2)).1 (Nat.lt_of_le_of_lt a2 b3)
     have c2:M - 1<L:=(Nat.pow_lt_pow_iff_right (by decide:1<2)).1 (Nat.lt_of_le_of_lt b2 a3)
     omega
  rw[this] at g1;exact g1
 have e:(64:Int) -(L:Int)=((64 - L:Nat):Int):=by omega
 refine ⟨L,?_,h2,h3⟩
 rw[←e]
 exact ai rfl (az Tryz.func86 Di k! (.inr rfl) (BL hy po (fun hh _ _ _=>h4 hh) (wrap_i64 o! o!)) k!) (Has.refl h) rfl
end Go.Proofs.aF
