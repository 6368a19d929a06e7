import Derived.Test.YtobmbjlcklkpoaaW12
import Derived.Test.YtobmbjlcklkpoaaW0
import Derived.Test.YtobmbjlcklkpoaaW11
import Derived.Test.YtobmbjlcklkpoaaW3
import Derived.Test.YtobmbjlcklkpoaaW6
import Derived.Test.YtobmbjlcklkpoaaW4
import Derived.Test.YtobmbjlcklkpoaaW7
namespace Go.Proofs.aJ
open Go.Proofs Ab
noncomputable section
set_option maxRecDepth 100000
set_option maxHeartbeats 4000000
set_option linter.unusedVariables false
set_option linter.unusedSimpArgs false
theorem xS (m:Int):∀(k i:Nat),tH m k i=((List.range' i k).filter fun s=>decide (ji ((s:Nat):Int)=m)).map fun s=> [AV.int .u64 ((s:Nat):Int)]
 | 0,i=>rfl
 | k+1,i=>by
   rw[tH,xS m k (i+1),List.range'_succ,List.filter_cons]
   cases decide (ji ((i:Nat):Int)=m)<;>rfl
theorem zU (q:ay) (n:Nat):∀(k i:Nat) (C W:List Gate),jr q n k i C=some W→W.length=C.length∧∀j,(W.g j).time=(C.g j).time
 | 0,i,C,W,e=>by
   rw[jr] at e;cases e;exact ⟨rfl,fun _=>rfl⟩
 | k+1,i,C,W,e=>by
   rw[Cy] at e
   cases h:decide (((C.set i (Ns q (C.g (i - 1)) (C.g i))).g i).ak<((C.set i (Ns q (C.g (i - 1)) (C.g i))).g i).aq) with
   | true=>rw[h,aj] at e;cases e
   | false=>
     rw[h,ai] at e
     obtain ⟨a,b⟩:=zU q n k (i+1) _ W e
     refine ⟨by rw[a,List.length_set],fun j=>?_⟩
     rw[b j]
     by_cases w:i=j
     · subst w
       by_cases hi:i<C.length
       · rw[o_ _ hi];rfl
       · rw[List.set_eq_of_length_le o!]
     · rw[nm _ w]
theorem zV (q:ay):∀(k i:Nat) (C:List Gate),(js q k i C).length=C.length∧∀j,((js q k i C).g j).time=(C.g j).time
 | 0,i,C=>by rw[js];exact ⟨rfl,fun _=>rfl⟩
 | k+1,i,C=>by
   rw[Cz]
   obtain ⟨a,b⟩:=zV q k (i+1) (C.set k (Wl q (C.g k) (C.g (k+1))))
   refine ⟨by rw[a,List.length_set],fun j=>?_⟩
   rw[b j]
   by_cases w:k=j
   · subst w
     by_cases hi:k<C.length
     · rw[o_ _ hi];rfl
     · rw[List.set_eq_of_length_le o!]
   · rw[nm _ w]
theorem LQ {q:ay} {l:List aM} {r:List Gate} {s0:Int} {w:List Gate} (e:dj q l r s0=some w):w.length=(yY q l r s0).length∧∀g∈yY q l r s0,∃j,j<w.length∧(w.g j).time=g.time:=by
 rw[Nz] at e
 obtain ⟨W,e1,rfl⟩:=Option.map_eq_some_iff.1 e
 obtain ⟨a1,a2⟩:=zU q _ _ _ _ _ e1
 obtain ⟨b1,b2⟩:=zV q ((yY q l r s0).length - 1) 0 W
 obtain ⟨p1,p2,p3⟩:=yS (L:=yY q l r s0) (by rw[xP];omega)
 have len:=p1.length_eq
 refine ⟨by omega,fun g hg=>?_⟩
 obtain ⟨j,hj,e2⟩:=List.mem_iff_getElem.1 (p1.symm.subset hg)
 exact ⟨j,by omega,by rw[b2,a2,nE hj,e2]⟩
theorem WN {q:ay} {l:List aM} {t:Int} (hl:l.length≤12) {s0:Int} {w:List Gate} (e:dj q l [bw t] s0=some w):uZ q l [bw t] s0=w.length∧0≤bL w (fun y=>fS y t)∧bL w (fun y=>fS y t)<(w.length:Int)∧w.length<1000:=by
 obtain ⟨d1,d2⟩:=LQ e
 obtain ⟨j,e1,e2,e3⟩:=Te (w:=w) (t:=t) (d2 (bw t) (by rw[yY];simp))
 exact ⟨by rw[ac4,d1],by rw[e1];omega,by rw[e1];omega,by rw[d1,xP,List.length_singleton];omega⟩
section
variable {q:ay} {l:List aM} (f:RF q l)
include f
theorem GV {r:List Gate} {m:Int} {y:Int×List Gate}:y∈ct q l r m↔∃s:Nat,s<2^q.ar.length∧(sz s:Int)=m∧y.1=((s:Nat):Int)∧dj q l r ((s:Nat):Int)=some y.2:=by
 have hp:=xA f.bad.2.2
 rw[ct,GP f.bad.2.2,xS,List.mem_filterMap]
 constructor
 · rintro ⟨a,ha,e⟩
   obtain ⟨s,hs,rfl⟩:=List.mem_map.1 ha
   obtain ⟨h1,h2⟩:=List.mem_filter.1 hs
   have h3:s<2^q.ar.length:=by have:=List.mem_range'_1.1 h1;omega
   obtain ⟨w,e1,rfl⟩:=Option.map_eq_some_iff.1 (show (dj q l r ((s:Nat):Int)).map (fun w=>(((s:Nat):Int),w))=some y from e)
   exact ⟨s,h3,by rw[←GO o!];exact of_decide_eq_true h2,rfl,e1⟩
 · rintro ⟨s,h1,h2,h3,h4⟩
   refine ⟨[AV.int .u64 ((s:Nat):Int)],List.mem_map.2 ⟨s,List.mem_filter.2 ⟨List.mem_range'_1.2 ⟨Nat.zero_le _,by omega⟩,?_⟩,rfl⟩,?_⟩
   · rw[decide_eq_true_eq,GO o!];exact h2
   · show (dj q l r ((s:Nat):Int)).map (fun w=>(((s:Nat):Int),w))=some y
     rw[h4,Option.map_some,←h3]
variable {t:Int} (t0:0≤t) (t1:t≤100000)
include t0 t1
theorem WO {s:Nat} (hs:s<256) {w:List Gate} (e:dj q l [bw t] ((s:Nat):Int)=some w):(kF w t).aP≤(kF w t).aF∧Bd (kF w t):=by
 obtain ⟨_,_,_,_,h5,h6⟩:=GQ f t0 t1 hs e
 obtain ⟨r0,r1,f0,f1⟩:=f.Ng
 have ag:ox q.aD q.aC (cG q l ((s:Nat):Int)):=fun i hi k hk=>h5 i ((kS f hs i).1 hi) k ((kS f hs k).1 hk)
 obtain ⟨v1,⟨b1,b2,b3,b4⟩,v3⟩:=at_mem f0 f1 r0 r1 (xz f ((s:Nat):Int)) t0 t1 (ug q l ((s:Nat):Int)) ag
 have same:∀x,((kF w t).aP≤x∧x≤(kF w t).aF)↔((oS q (cG q l ((s:Nat):Int)) t).aP≤x∧x≤(oS q (cG q l ((s:Nat):Int)) t).aF):=fun x=>by
  rw[h6,v3]
  exact ⟨fun h c hc=>h c ((kS f hs c).1 hc),fun h c hc=>h c ((kS f hs c).2 hc)⟩
 have a1:=(same (oS q (cG q l ((s:Nat):Int)) t).aP).2 ⟨Int.le_refl _,v1⟩
 have a2:=(same (oS q (cG q l ((s:Nat):Int)) t).aF).2 ⟨v1,Int.le_refl _⟩
 have a3:=(same (kF w t).aP).1 ⟨Int.le_refl _,by omega⟩
 have a4:=(same (kF w t).aF).1 ⟨by omega,Int.le_refl _⟩
 exact ⟨by omega,by omega,by omega,by omega,by omega⟩
theorem JR:eW q l t=eT q l t:=by
 have hp:=xA f.bad.2.2
 have ady:∀s∈(ct q l [bw t] q.bad).map fun y=>kF y.2 t,s.aP≤s.aF∧Bd s:=fun s hs=>by
  obtain ⟨y,hy,rfl⟩:=List.mem_map.1 hs
  obtain ⟨n,n1,n2,n3,n4⟩:=(GV f).1 hy
  exact WO f t0 t1 o! n4
 obtain ⟨c1,i1⟩:=JQ (A:=(ct q l [bw t] q.bad).map fun y=>kF y.2 t) (fun s hs=>(ady s hs).2) (fun s hs=>(ady s hs).1)
 obtain ⟨c2,i2⟩:=Jv f t0 t1
 refine Ck c1 c2 fun x=>?_
 rw[eW,i1,i2]
 constructor
 · rintro ⟨s,hs,hx⟩
   obtain ⟨y,hy,rfl⟩:=List.mem_map.1 hs
   obtain ⟨n,n1,n2,n3,n4⟩:=(GV f).1 hy
   obtain ⟨_,_,_,_,h5,h6⟩:=GQ f t0 t1 o! n4
   exact ⟨n,n1,n2,h5,(h6 x).1 hx⟩
 · rintro ⟨n,n1,n2,h5,hx⟩
   have hr:∀g∈ [bw t],∃t,0≤t∧t≤100000∧g=bw t:=fun g hg=>by rw[List.mem_singleton] at hg;exact ⟨t,t0,t1,hg⟩
   have sp:=(yZ f (s:=n) o! hr).1
   cases e:dj q l [bw t] ((n:Nat):Int) with
   | none=>exact absurd h5 (sp.1 e)
   | some w=>
     obtain ⟨_,_,_,_,_,h6⟩:=GQ f t0 t1 o! e
     exact ⟨kF w t,List.mem_map.2 ⟨(((n:Nat):Int),w),(GV f).2 ⟨n,n1,n2,rfl,e⟩,rfl⟩,(h6 x).2 hx⟩
end
def tK:Code:=(Try.f23.body).getD .skip
theorem JS:Try.f23.body=some tK:=by kernel_rfl
def Ds:Code:=(ck tK).getD 0 .skip
def eX (s:Int):Nat→Nat→List Int→List Int
 | 0,_,iS=>iS
 | dS+1,i0,iS=>(bif (xM s ((i0:Nat):Int)) then eX s dS (i0+1) (iS++[((i0:Nat):Int)]) else eX s dS (i0+1) iS)
theorem pe {d:Nat} {h:aw} (s:Int) (bH:Tidy h):∀(k_ i_:Nat) (iS:List Int) (z0:AV) (_:i_+k_=(Int.toNat 8)) (x:Nat→AV) (hh:aw) (aL:Tidy hh) (aX:Has h hh) (gI:h.nx≤hh.nx) (PE:dK 3 h hh z0 (zs .i64 iS)) (lz0:iS.length≤i_),ka (cJ (d+1)) Ds ⟨((AV.int .u64 s)::(x 1)::(x 2)::z0::(x 4)::(Zn i_)::rx x 6 11 []),hh,[],.no⟩ (.exit 0) h 3 (fun r z y=>((AV.int .u64 s)::(y 1)::(y 2)::z::rx y 4 13 [])) (fun r=>zs .i64 r) (Int.toNat 8) (eX s k_ i_ iS)
 | 0,i0,iS,z0,jZ,x,hh,aL,aX,gI,PE,lz0=>by
   have q1:(decide (((i0:Nat):Int)<8))=false:=d!
   exact ka.out iS z0 rfl (pk (d+1) _ _ hh _ hh (VV (bz 3 false true .i64 ((i0:Nat):Int) 8)<|BB q1<|ZZ) k!) ⟨aL,aX,by omega⟩ PE (by show (zs _ _).length≤_;rw[oN];omega) k!
 | dS+1,i0,iS,z0,jZ,x,hh,aL,aX,gI,PE,lz0=>by
   have q1:(decide (((i0:Nat):Int)<8))=true:=d!
   have k2:=Nw (d:=d) s ((i0:Nat):Int) (by first | omega | assumption | (simp only[List.length_set,List.length_replicate,List.length_append,List.length_cons,List.length_nil,List.nil_append]<;>omega) | (rw[List.length_take];omega)) aL
   rcases Bool.eq_false_or_eq_true (xM s ((i0:Nat):Int)) with f1 | f1
   · obtain ⟨h4,GU,ng,K3,vH,pU⟩:=gu aL (aY.cells [(Zn i0)] 3 false)
     have mA:Has hh h4:=pU
     obtain ⟨z6,h5,Ty,jJ,vD,aaJ,oz7⟩:=dK.abP (k:= .i64) (h0:=h) (tys:= #[35,35]) (v:=((i0:Nat):Int)) (L:=iS) ng bH (aX.trans mA) o! (PE.has mA) vH (by first | omega | (simp<;>omega)) rfl rfl k! k! k! (bytes:=8) k! (z0:=Zi 0) k! rfl (by decide)
     have u8:=eR 3 false true i0 1 o!
     exact ka.round (by simp only[eX,f1,aj,ai]) (pk (d+1) _ _ hh _ h5 (VV (bz 3 false true .i64 ((i0:Nat):Int) 8)<|BB q1<|CN 4<|EE k2<|BB f1<|CN 2<|NN GU (fun i=>(AV.slice i 0 1 1 false))<|PP (show b8 env h4 #[35,35] z0 (AV.slice hh.nx 0 1 1 false)=some (z6,h5) from Ty)<|CC<|VV u8<|CC<|ZZ) k!) _ k! (fun x=>pe s bH dS (i0+1) (iS++[((i0:Nat):Int)]) z6 o! x h5 jJ aaJ o! oz7 (by first | omega | (simp<;>omega)))
   · have u4:=eR 3 false true i0 1 o!
     exact ka.round (by simp only[eX,f1,aj,ai]) (pk (d+1) _ _ hh _ hh (VV (bz 3 false true .i64 ((i0:Nat):Int) 8)<|BB q1<|CN 4<|EE k2<|BV f1 u4<|CC<|ZZ) k!) _ k! (fun x=>pe s bH dS (i0+1) iS z0 o! x hh aL aX o! PE (by first | omega | (simp<;>omega)))
def km (s:Int):List Int:=(eX s (Int.toNat 8) 0 ([]))
theorem zW {d:Nat} {h:aw} (s:Int) (bH:Tidy h):∃z hk,cJ (d+2) (.fn 23) [(AV.int .u64 s)] h= .ret z hk∧Grow h hk∧gA hk .i64 3 z (km s)∧dK 3 h hk z (zs .i64 (km s)):=by
 obtain ⟨zo3,yl1,h2,B8,B9,oz4,ln5⟩:=pe (d:=d) (h:=h) s bH (Int.toNat 8) 0 ([]) AV.aK o! (fun k_=>(((AV.int .u64 s)::AV.undef::AV.aK::AV.aK::AV.undef::(Zi 0)::jl 11):List AV).getD k_ AV.undef) h bH (Has.refl _) (Nat.le_refl _) (.inl ⟨rfl,rfl⟩) (Nat.zero_le _)
 rw[oN] at ln5
 have fJ:=B9.y
 have Jm:h.nx≤h2.nx:=B9.n
 have fl:Has h h2:=B9.a
 have e:km s=(eX s (Int.toNat 8) 0 ([])):=by simp only[km,aj,ai]
 rw[e]
 have oz:=dK.le (h0:=h) oz4 o!
 exact ⟨zo3,gH rfl (a_ Try.func23 JS rfl (.inr rfl) (pk (d+1) _ _ h _ h2 (CN 3<|LL B8<|CN 2<|ZZ) k!) k!) bH ⟨fJ,fl,by omega⟩ (P:=fun hh=>gA hh .i64 3 zo3 (eX s (Int.toNat 8) 0 ([]))∧dK 3 h hh zo3 (zs .i64 (eX s (Int.toNat 8) 0 ([])))) ⟨oz.zs o! k! k!,oz⟩ fun v=>⟨oz.IM v k! k!,oz.Xw v⟩⟩
def rE:Code:=(Try.f9.body).getD .skip
theorem aaK:Try.f9.body=some rE:=by kernel_rfl
def GX:Code:=(ck rE).getD 0 .skip
def pV:Code:=(ck rE).getD 1 .skip
theorem Tz {d:Nat} {h hh:aw} {a0 c0 s0:Int} {fnd:Bool} {b9 b10 b11 lp:Nat} {cv:AV} (x:Nat→AV) (bH:Tidy h) (aX:Has h hh) (gI:h.nx≤hh.nx) (aL:Tidy hh) (g9:hh.get b9=some (.cells [.int .u64 a0] 51 false)) (g10:hh.get b10=some (.cells [.int .u64 c0] 51 false)) (g11:hh.get b11=some (.cells [.bool fnd] 4 false)) (l9:h.nx≤b9) (l10:b9<b10) (l11:b10<b11):
 ∃jY h',Ev env (cJ (d+8)) pV ⟨rx x 0 9 ((Pt b9)::(Pt b10)::(Pt b11)::(AV.int .u64 s0)::rx x 13 16 ((AV.int .u64 s0)::cv::rx x 31 12 [])),hh,[],.pX lp⟩ .normal ⟨jY,h',[],.pX lp⟩∧Tidy h'∧hh.nx≤h'.nx∧h'.get b9=some (.cells [.int .u64 (ah .u64 a0 s0)] 51 false)∧h'.get b10=some (.cells [.int .u64 (M6 .u64 c0 s0)] 51 false)∧h'.get b11=some (.cells [.bool true] 4 false)∧(∀k w,k≠b9→k≠b10→k≠b11→hh.get k=some w→h'.get k=some w):=by
 have T9:=aL _ _ g9
 have T10:=aL _ _ g10
 have T11:=aL _ _ g11
 have u1:cD env .and 51 false false (some (AV.int .u64 a0)) (some (AV.int .u64 s0))=some (AV.int .u64 (ah .u64 a0 s0)):=jR 51 false false .u64 a0 s0
 have u2:cD env .or 51 false false (some (AV.int .u64 c0)) (some (AV.int .u64 s0))=some (AV.int .u64 (M6 .u64 c0 s0)):=M7 51 false false .u64 c0 s0
 obtain ⟨h3,afZ,eZ,I4,oR,zP⟩:=BN (t:=51) (n:=1) (i:=b9) (o:=0) (v:=(AV.int .u64 (ah .u64 a0 s0))) (N:=[(AV.int .u64 (ah .u64 a0 s0))]) aL g9 k! rfl k! k! (by simp only[AV.cells,List.all_cons,List.all_nil,Bool.and_true,Bool.and_self,eI,dt,eJ,eK,cI,gU,gV,gW,gX,gY,eL])
 have fu:Has h h3:=Has.cm aX zP bH o!
 obtain ⟨h4,R0,ng,K3,vH,zI⟩:=BN (t:=51) (n:=1) (i:=b10) (o:=0) (v:=(AV.int .u64 (M6 .u64 c0 s0))) (N:=[(AV.int .u64 (M6 .u64 c0 s0))]) eZ (zP _ _ o! g10) k! rfl k! k! (by simp only[AV.cells,List.all_cons,List.all_nil,Bool.and_true,Bool.and_self,eI,dt,eJ,eK,cI,gU,gV,gW,gX,gY,eL])
 have mA:Has h h4:=Has.cm fu zI bH o!
 obtain ⟨h5,Ga,jJ,RY,Ai,kQ⟩:=BN (t:=4) (n:=1) (i:=b11) (o:=0) (v:=(AV.bool true)) (N:=[(AV.bool true)]) ng (zI _ _ o! (zP _ _ o! g11)) k! rfl k! k! (by simp only[AV.cells,List.all_cons,List.all_nil,Bool.and_true,Bool.and_self,eI,dt,eJ,eK,cI,gU,gV,gW,gX,gY,eL])
 have iP:Has h h5:=Has.cm mA kQ bH o!
 have ev:=V3 (.pX lp) (d+8) pV (rx x 0 9 ((Pt b9)::(Pt b10)::(Pt b11)::(AV.int .u64 s0)::rx x 13 16 ((AV.int .u64 s0)::cv::rx x 31 12 []))) hh .normal h5 (MM (aB 51 0 (AV.int .u64 a0) g9 k!)<|CC<|VV u1<|MM (aB 51 0 (AV.int .u64 c0) g10 k!)<|CC<|VV u2<|SS afZ<|SS R0<|SS Ga<|HH (aB 51 0 (AV.int .u64 a0) g9 k!)<|HH (show AV.same 20 (AV.int .u64 a0) (AV.int .u64 a0)=true from aG 19 _ _)<|HH (aB 51 0 (AV.int .u64 c0) g10 k!)<|HH (show AV.same 20 (AV.int .u64 c0) (AV.int .u64 c0)=true from aG 19 _ _)<|HH (aB 51 0 (AV.int .u64 c0) (zP _ _ o! g10) k!)<|HH (show AV.same 20 (AV.int .u64 c0) (AV.int .u64 c0)=true from aG 19 _ _)<|ZZ) k!
 exact ⟨_,_,ev,jJ,by omega,(kQ _ _ o! (zI _ _ o! oR)),(kQ _ _ o! vH),Ai,fun k w k1 k2 k3 e=>kQ _ _ k3 (zI _ _ k2 (zP _ _ k1 e))⟩
def JT:Code→Code
 | .seq a b=>match JT a with
   | .skip=>JT b
   | c=>c
 | .block _ b=>JT b
 | .loop b=>JT b
 | .rangeFunc f p a b=> .rangeFunc f p a b
 | _=> .skip
def vb:Code:=OW (JT rE)
def vc (x:Nat→AV) (b9 b10 b11:Nat):List AV:=rx x 0 9 ((AV.ptr b9 0)::(AV.ptr b10 0)::(AV.ptr b11 0)::rx x 12 31 [])
theorem aaL {d:Nat} (x:Nat→AV) (b9 b10 b11 lp:Nat) (s0:Int) (cv:AV) (h:aw):
 Ev env (cJ (d+8)) vb ⟨rx x 0 9 ((AV.ptr b9 0)::(AV.ptr b10 0)::(AV.ptr b11 0)::rx x 12 17 ((AV.int .u64 s0)::cv::rx x 31 12 [])),h,[],.pX lp⟩ .normal ⟨rx x 0 9 ((AV.ptr b9 0)::(AV.ptr b10 0)::(AV.ptr b11 0)::(AV.int .u64 s0)::rx x 13 16 ((AV.int .u64 s0)::cv::rx x 31 12 [])),h,[],.pX lp⟩:=by
 have ev:=V3 (.pX lp) (d+8) vb (rx x 0 9 ((AV.ptr b9 0)::(AV.ptr b10 0)::(AV.ptr b11 0)::rx x 12 17 ((AV.int .u64 s0)::cv::rx x 31 12 []))) h .normal h (CC<|ZZ) (by kernel_rfl)
 exact zS (by kernel_rfl) ev
theorem aaM (x:Nat→AV) (b9 b10 b11:Nat) (a c:AV):([29,30].zip [a,c]).foldl (fun ts y=>ts.set y.1 y.2) (vc x b9 b10 b11)=rx x 0 9 ((AV.ptr b9 0)::(AV.ptr b10 0)::(AV.ptr b11 0)::rx x 12 17 (a::c::rx x 31 12 [])):=by kernel_rfl
def vV (L:List (Int×List Gate)):Int:=L.foldl (fun a y=>ah .u64 a y.1) 255
def r6 (L:List (Int×List Gate)):Int:=L.foldl (fun a y=>M6 .u64 a y.1) 0
def adz (hk:aw) (a:List AV) (y:Int×List Gate):Prop:=∃cv,a=[.int .u64 y.1,cv]
def SuI (e:aw) (b9 b10 b11 lp:Nat) (x:Nat→AV) (dn:Nat) (L:List (Int×List Gate)) (P:Nat→Prop) (hh:aw):Prop:=
 e.nx≤hh.nx∧lp<hh.nx∧b9<hh.nx∧b10<hh.nx∧b11<hh.nx∧hh.get b9=some (.cells [.int .u64 (vV L)] 51 false)∧hh.get b10=some (.cells [.int .u64 (r6 L)] 51 false)∧hh.get b11=some (.cells [.bool (!L.isEmpty)] 4 false)∧hh.get lp=some (.loop .ready none (vc x b9 b10 b11) [29,30] vb pV dn)∧∀k,P k↔(k=b9∨k=b10∨k=b11∨k=lp)
theorem adA {d:Nat} {e:aw} {b9 b10 b11 lp:Nat} (x:Nat→AV) (dn:Nat) (he:∀k,e.get k=none) (l9:e.nx≤b9) (l10:b9<b10) (l11:b10<b11) (ll:b11<lp):YlH (cJ (d+9)) lp adz (SuI e b9 b10 b11 lp x dn) where
 aP:=by
  rintro L P hh ⟨en,lx,x9,x10,x11,g9,g10,g11,gp,pp⟩ k hk
  rcases (pp k).1 hk with p | p | p | p<;>omega
 stay:=by
  rintro L P hh hk ⟨en,lx,x9,x10,x11,g9,g10,g11,gp,pp⟩ yk nk kp
  have K:∀k w,k=b9∨k=b10∨k=b11∨k=lp→hh.get k=some w→hk.get k=some w:=fun k w c q=>kp k w ((pp k).2 c) q
  exact ⟨by omega,by omega,by omega,by omega,by omega,K _ _ (by simp) g9,K _ _ (by simp) g10,K _ _ (by simp) g11,K _ _ (by simp) gp,pp⟩
 next:=by
  rintro L a y P hh hLL ⟨cv,rfl⟩ ⟨en,lx,x9,x10,x11,g9,g10,g11,gp,pp⟩ aL
  have c1:=kY (o:= .loop .busy none (vc x b9 b10 b11) [29,30] vb pV dn) aL gp
  obtain ⟨jY,h2,ev,y2,n2,r9,r10,r11,k2⟩:=Tz (d:=d) (h:=e) (hh:=hh.put lp (some (.loop .busy none (vc x b9 b10 b11) [29,30] vb pV dn))) (s0:=y.1) (lp:=lp) (cv:=cv) x (fun i w g=>by rw[he] at g;cases g) (fun i w g=>by rw[he] at g;cases g) en c1.1 (c1.2.2 _ _ o! g9) (c1.2.2 _ _ o! g10) (c1.2.2 _ _ o! g11) l9 l10 l11
  have WL:hh.nx≤h2.nx:=n2
  have gl2:=k2 _ _ o! o! o! c1.2.1
  have q:=F0 (d:=d+8) (args:=[.int .u64 y.1,cv]) (jump:=none) gp rfl ((aaM x b9 b10 b11 (.int .u64 y.1) cv)▸aaL x b9 b10 b11 lp y.1 cv hh) gp ev (.inl ⟨rfl,rfl⟩) gl2
  have c3:=kY (o:= .loop .ready none (vc x b9 b10 b11) [29,30] vb pV dn) y2 gl2
  have ne:(!(L++[y]).isEmpty)=true:=by cases L<;>rfl
  have eA:vV (L++[y])=ah .u64 (vV L) y.1:=by rw[vV,vV,List.foldl_append];rfl
  have eC:r6 (L++[y])=M6 .u64 (r6 L) y.1:=by rw[r6,r6,List.foldl_append];rfl
  refine ⟨_,P,q,c3.1,n2,⟨Nat.le_trans en WL,Nat.lt_of_lt_of_le lx WL,Nat.lt_of_lt_of_le x9 WL,Nat.lt_of_lt_of_le x10 WL,Nat.lt_of_lt_of_le x11 WL,by rw[eA];exact c3.2.2 _ _ o! r9,by rw[eC];exact c3.2.2 _ _ o! r10,by rw[ne];exact c3.2.2 _ _ o! r11,c3.2.1,pp⟩,fun k p=> .inl p,fun k w n g=>?_⟩
  have nn:¬(k=b9∨k=b10∨k=b11∨k=lp):=fun c=>n ((pp k).2 c)
  exact c3.2.2 _ _ (fun c=>nn (.inr (.inr (.inr c)))) (k2 _ _ (fun c=>nn (.inl c)) (fun c=>nn (.inr (.inl c))) (fun c=>nn (.inr (.inr (.inl c)))) (c1.2.2 _ _ (fun c=>nn (.inr (.inr (.inr c)))) g))
theorem WQ {e:aw} {b9 b10 b11 lp:Nat} {x:Nat→AV} {dn:Nat} {L L':List (Int×List Gate)} {P P':Nat→Prop} {hh hk:aw} (a:SuI e b9 b10 b11 lp x dn L P hh) (a':SuI e b9 b10 b11 lp x dn L' P' hk) (A:Has hh hk):SuI e b9 b10 b11 lp x dn L' P hh:=by
 obtain ⟨en,lx,x9,x10,x11,g9,g10,g11,gp,pp⟩:=a
 obtain ⟨_,_,_,_,_,g9',af0,af1,_,_⟩:=a'
 have e9:=A _ _ g9;rw[g9'] at e9
 have YW:=A _ _ g10;rw[af0] at YW
 have e11:=A _ _ g11;rw[af1] at e11
 exact ⟨en,lx,x9,x10,x11,by rw[g9,←e9],by rw[g10,←YW],by rw[g11,←e11],gp,pp⟩
theorem JU {d:Nat} {g hh:aw} {q:ay} {l:List aM} {lv:AV} {m:Int} {bq bl bm br b9 b10 b11:Nat} (x:Nat→AV) (D:List oh) (PD:Tidy g) (hqg:aA.ok g q) (hlg:aQ g lv l) (E1:l.length≤12) (hq8:q.ar.length≤8) (VT:∀k,k<l.length→0≤(l.g k).aN∧(l.g k).aN<(q.ar.length:Int)) (l9:g.nx≤b9) (l10:b9<b10) (l11:b10<b11) (lb:b11<bq) (dd:bq<bl∧bl<bm∧bm<br)
 (aL:Tidy hh) (ag:Has g hh) (g9:hh.get b9=some (.cells [.int .u64 255] 51 false)) (g10:hh.get b10=some (.cells [.int .u64 0] 51 false)) (g11:hh.get b11=some (.cells [.bool false] 4 false)) (gq:hh.get bq=some (.cells (aA.c q) 26 false)) (gm:hh.get bm=some (.cells [Zi m] 3 false)) (gr:hh.get br=some (.cells [.aK] 69 false)) (gl:hh.get bl=some (.cells [lv] 27 false)) (af2:x 28= .func 42 [] [(AV.ptr bq 0),(AV.ptr bm 0),(AV.ptr br 0),(AV.ptr bl 0)]):
 ∃hk,Ev env (cJ (d+12)) (.rangeFunc (.tmp 28) #[29,30] vb pV) ⟨vc x b9 b10 b11,hh,D,.no⟩ .normal ⟨vc x b9 b10 b11,hk,.rQ hh.nx::D,.no⟩∧Tidy hk∧hh.nx<hk.nx∧hk.get hh.nx=some .pG∧hk.get b9=some (.cells [.int .u64 (vV (ct q l [] m))] 51 false)∧hk.get b10=some (.cells [.int .u64 (r6 (ct q l [] m))] 51 false)∧hk.get b11=some (.cells [.bool (!(ct q l [] m).isEmpty)] 4 false)∧∀k w,k≠b9→k≠b10→k≠b11→hh.get k=some w→hk.get k=some w:=by
 have Tr:=aL _ _ gr
 obtain ⟨e,en,he⟩:=za g.nx
 obtain ⟨h7,n7⟩:=lX (h:=hh) .pG
 have y7:=fQ aL n7
 have x7:=lr n7
 obtain ⟨h8,n8⟩:=lX (h:=h7) (.loop .ready none (vc x b9 b10 b11) (#[29,30]:Array Tmp).toList vb pV hh.nx)
 have y8:=fQ y7 n8
 have x8:=lr n8
 have K8:∀k w,hh.get k=some w→h8.get k=some w:=fun k w c=>fG y7 n8 (fG aL n7 c)
 have hi:SuI e b9 b10 b11 h7.nx x hh.nx [] (fun k=>k=b9∨k=b10∨k=b11∨k=h7.nx) h8:=
  ⟨by omega,by omega,by omega,by omega,by omega,K8 _ _ g9,K8 _ _ g10,K8 _ _ g11,jc n8,fun _=>Iff.rfl⟩
 have yl:=adA (d:=d) (e:=e) (b9:=b9) (b10:=b10) (b11:=b11) (lp:=h7.nx) x hh.nx he o! l10 l11 o!
 have lg:∀k w,g.get k=some w→k<g.nx:=fun k w c=>PD _ _ c
 have gn:∀k,g.nx≤k→g.get k=none:=fun k c=>xE PD c
 let g0:aw:={g with nx:=bq}
 have g0g:∀k,g0.get k=g.get k:=fun k=>rfl
 have y0:Tidy g0:=fun k w c=>by have:=PD k w c;show k<bq;omega
 have a0:Has g g0:=fun k w c=>c
 obtain ⟨h9,P9,e9,y9,x9',i9,p9,l9'⟩:=X6 (d:=d+1) (g:=g0) (h:=h8) (q:=q) (l:=l) (r:=[]) (m:=m) (lv:=lv) (rv:= .aK) (b:=h7.nx) (bq:=bq) (bm:=bm) (br:=br) (bl:=bl) y0 (aA.mono a0 hqg) (hlg.has a0) aQ.nil E1 (by simp) hq8 VT o! (Nat.le_refl _) y8 (fun k w c=>K8 _ _ (ag _ _ c)) (show bq≤h8.nx by omega) (K8 _ _ gq) (K8 _ _ gm) (K8 _ _ gr) (K8 _ _ gl) yl (fun a b c=>WQ a b c) (fun {s0 w hk p op} ht hg=>⟨_,rfl⟩) hi (fun k c=>by
  rcases c with c | c | c | c
  · exact ⟨gn k o!,by omega⟩
  · exact ⟨gn k o!,by omega⟩
  · exact ⟨gn k o!,by omega⟩
  · exact ⟨gn k o!,by omega⟩)
 obtain ⟨_,lx,z9,z10,z11,r9,r10,r11,gp9,pp⟩:=i9
 have er:=BJ (E:=env) (call:=cJ (d+12)) (ts:=vc x b9 b10 b11) (ds:=D) (f:= .tmp 28) (ps:= #[29,30]) (aS:=vb) (bd:=pV) (e:= .normal) (by show some (x 28)=_;rw[af2]) n7 n8 e9 gp9 (by intro c;cases c) rfl
 have vG:=kY (o:= .loop .exhausted none (vc x b9 b10 b11) [29,30] vb pV hh.nx) y9 gp9
 have gd:h9.get hh.nx=some .pG:=l9' _ _ (by rintro (c | c | c | c)<;>omega) (fG y7 n8 (jc n7))
 refine ⟨_,er,vG.1,(show hh.nx<h9.nx by omega),vG.2.2 _ _ o! gd,vG.2.2 _ _ o! r9,vG.2.2 _ _ o! r10,vG.2.2 _ _ o! r11,fun k w k1 k2 k3 c=>?_⟩
 have T:=aL _ _ c
 exact vG.2.2 _ _ o! (l9' _ _ (by rintro (c | c | c | c)<;>omega) (K8 _ _ c))
def CM (call:bj) (b:Code) (s:St) (ex:iC) (h hh:aw) (tn:(Nat→AV)→List AV) (tr:AV→AV→(Nat→AV)→List AV):Option (List Int×List Int)→Prop
 | none=>∃y hk,Ev env call (.loop b) s ex ⟨tn y,hk,[],.no⟩∧Tidy hk∧hh.nx≤hk.nx∧Has h hk
 | some r=>∃z1 z2 y hk,Ev env call (.loop b) s .ret ⟨tr z1 z2 y,hk,[],.no⟩∧Tidy hk∧hh.nx≤hk.nx∧Has h hk∧gA hk .i64 3 z1 r.1∧dK 3 h hk z1 (zs .i64 r.1)∧gA hk .i64 3 z2 r.2∧dK 3 h hk z2 (zs .i64 r.2)
section
variable {call:bj} {b:Code} {s:St} {ex:iC} {h hh hk:aw} {tn:(Nat→AV)→List AV} {tr:AV→AV→(Nat→AV)→List AV}
theorem CM.out {i:Nat} {L:List AV} (ev:Ev env call b s (.exit i) ⟨L,hk,[],.no⟩) (y1:Tidy hk) (n1:hh.nx≤hk.nx) (a1:Has h hk) (hl:L=tn fun k=>L.getD k AV.undef):CM call b s (.exit i) h hh tn tr none:=by
 obtain ⟨y,x⟩:=yJ (tmpl:=tn) (Ev.out ev) hl
 exact ⟨y,hk,x,y1,n1,a1⟩
theorem CM.ret {L:List AV} {z1 z2:AV} {r:List Int×List Int} (ev:Ev env call b s .ret ⟨L,hk,[],.no⟩) (y1:Tidy hk) (n1:hh.nx≤hk.nx) (a1:Has h hk) (q1:gA hk .i64 3 z1 r.1) (o1:dK 3 h hk z1 (zs .i64 r.1)) (q2:gA hk .i64 3 z2 r.2) (o2:dK 3 h hk z2 (zs .i64 r.2)) (hl:L=tr z1 z2 fun k=>L.getD k AV.undef):CM call b s ex h hh tn tr (some r):=by
 obtain ⟨y,x⟩:=yJ (tmpl:=tr z1 z2) (Ev.ret ev) hl
 exact ⟨z1,z2,y,hk,x,y1,n1,a1,q1,o1,q2,o2⟩
theorem CM.round {L:List AV} {o:Option (List Int×List Int)} (ev:Ev env call b s .normal ⟨L,hk,[],.no⟩) (n1:hh.nx≤hk.nx) (uQ:(Nat→AV)→List AV) (hl:L=uQ fun k=>L.getD k AV.undef) (ih:∀x,CM call b ⟨uQ x,hk,[],.no⟩ ex h hk tn tr o):CM call b s ex h hh tn tr o:=by
 have q:=ih fun k=>L.getD k AV.undef
 rw[←hl] at q
 cases o with
 | none=>
   obtain ⟨y,h2,x,y1,n2,g⟩:=q
   exact ⟨y,h2,Ev.loop ev x,y1,Nat.le_trans n1 n2,g⟩
 | some v=>
   obtain ⟨z1,z2,y,h2,x,y1,n2,g⟩:=q
   exact ⟨z1,z2,y,h2,Ev.loop ev x,y1,Nat.le_trans n1 n2,g⟩
end
theorem od {d:Nat} {f:FuncId} {args:List AV} {h h':aw} {z1 z2 w:AV} {A B:List Int} (y:Tidy h) (hm:M0 f args h=none) (hd:sQ env (e_ env M0 d) f args h (.tuple [z1,z2,w]) h') (y1:Tidy h') (n1:h.nx≤h'.nx) (a1:Has h h') (q1:gA h' .i64 3 z1 A) (o1:dK 3 h h' z1 (zs .i64 A)) (q2:gA h' .i64 3 z2 B) (o2:dK 3 h h' z2 (zs .i64 B)):
 ∃hk,cJ (d+1) (.fn f) args h= .ret (.tuple [z1,z2,w]) hk∧Grow h hk∧gA hk .i64 3 z1 A∧gA hk .i64 3 z2 B:=by
 by_cases hv:Has h h'∧AV.within h.nx 20 (.tuple [z1,z2,w])=true
 · have v1:AV.within h.nx (18+1) z1=true:=kZ hv.2 (by simp)
   have v2:AV.within h.nx (18+1) z2=true:=kZ hv.2 (by simp)
   exact ⟨h,az hm hd hv.1 hv.2,Grow.refl y,o1.IM v1 (by kernel_rfl) (by kernel_rfl),o2.IM v2 (by kernel_rfl) (by kernel_rfl)⟩
 · exact ⟨h',oc hm hd hv,⟨y1,a1,n1⟩,q1,q2⟩
theorem tL (h:aw):gA h .i64 3 .aK []:=dK.IM (h:=h) (n:=0) (.inl ⟨rfl,rfl⟩) rfl (by kernel_rfl) (by kernel_rfl)
theorem pkd (D D':List oh) (d:Nat) (c:Code) (ts:List AV) (h:aw) (e:iC) (h':aw) {al:List mZ} {ps:List Prop} (k:Pk al [] ps) (hr:run env (cJ d) 300 c ⟨ts,h,D,.no⟩ al []= .at e ⟨uP (run env (cJ d) 300 c ⟨ts,h,D,.no⟩ al []),h',D',.no⟩ [] ps):Ev env (cJ d) c ⟨ts,h,D,.no⟩ e ⟨uP (run env (cJ d) 300 c ⟨ts,h,D,.no⟩ al []),h',D',.no⟩:=Y9 k hr
theorem Has.GY {g h h':aw} {b9 b10 b11:Nat} (a:Has g h) (k:∀i w,i≠b9→i≠b10→i≠b11→h.get i=some w→h'.get i=some w) (y:Tidy g) (h9:g.nx≤b9) (l10:b9<b10) (l11:b10<b11):Has g h':=fun i w e=>by
 have:=y _ _ e
 exact k _ _ o! o! o! (a _ _ e)
structure Dt (n:Nat) (h:aw) (D:List Nat):Prop where
 nd:D.Nodup
 at_:∀r∈D,n≤r∧h.get r=some .pG
theorem Dt.more {n:Nat} {h0 h h':aw} {D:List Nat} (c:Dt n h0 D) (y:Tidy h0) (hn:n≤h0.nx) (hle:h0.nx≤h.nx) (a:Has h0 h') (g:h'.get h.nx=some .pG):Dt n h' (h.nx::D):=
 ⟨List.nodup_cons.2 ⟨fun m=>by have:=y _ _ (c.at_ _ m).2;omega,c.nd⟩,fun r hr=>by
  rcases List.mem_cons.1 hr with rfl | hr
  · exact ⟨by omega,g⟩
  · exact ⟨(c.at_ r hr).1,a _ _ (c.at_ r hr).2⟩⟩
def TA (call:bj) (b:Code) (ts:List AV) (ex:iC) (h hh:aw) (D:List Nat) (tn:(Nat→AV)→List AV) (tr:AV→AV→(Nat→AV)→List AV):Option (List Int×List Int)→Prop
 | none=>∃y hk D',Ev env call (.loop b) ⟨ts,hh,D.map .rQ,.no⟩ ex ⟨tn y,hk,D'.map .rQ,.no⟩∧Tidy hk∧hh.nx≤hk.nx∧Has h hk∧Dt h.nx hk D'
 | some r=>∃z1 z2 y hk D',Ev env call (.loop b) ⟨ts,hh,D.map .rQ,.no⟩ .ret ⟨tr z1 z2 y,hk,D'.map .rQ,.no⟩∧Tidy hk∧hh.nx≤hk.nx∧Has h hk∧Dt h.nx hk D'∧gA hk .i64 3 z1 r.1∧dK 3 h hk z1 (zs .i64 r.1)∧gA hk .i64 3 z2 r.2∧dK 3 h hk z2 (zs .i64 r.2)
section
variable {call:bj} {b:Code} {ts:List AV} {ex:iC} {h hh hk:aw} {D:List Nat} {tn:(Nat→AV)→List AV} {tr:AV→AV→(Nat→AV)→List AV}
theorem TA.out {i:Nat} {L:List AV} (ev:Ev env call b ⟨ts,hh,D.map .rQ,.no⟩ (.exit i) ⟨L,hk,D.map .rQ,.no⟩) (y1:Tidy hk) (n1:hh.nx≤hk.nx) (a1:Has h hk) (c1:Dt h.nx hk D) (hl:L=tn fun k=>L.getD k AV.undef):TA call b ts (.exit i) h hh D tn tr none:=by
 obtain ⟨y,x⟩:=yJ (tmpl:=tn) (Ev.out ev) hl
 exact ⟨y,hk,D,x,y1,n1,a1,c1⟩
theorem TA.ret {c:Nat} {L:List AV} {z1 z2:AV} {r:List Int×List Int} (ev:Ev env call b ⟨ts,hh,D.map .rQ,.no⟩ .ret ⟨L,hk,.rQ c::D.map .rQ,.no⟩) (y1:Tidy hk) (n1:hh.nx≤hk.nx) (a1:Has h hk) (c1:Dt h.nx hk (c::D)) (q1:gA hk .i64 3 z1 r.1) (o1:dK 3 h hk z1 (zs .i64 r.1)) (q2:gA hk .i64 3 z2 r.2) (o2:dK 3 h hk z2 (zs .i64 r.2)) (hl:L=tr z1 z2 fun k=>L.getD k AV.undef):TA call b ts ex h hh D tn tr (some r):=by
 obtain ⟨y,x⟩:=yJ (tmpl:=tr z1 z2) (Ev.ret ev) hl
 exact ⟨z1,z2,y,hk,c::D,x,y1,n1,a1,c1,q1,o1,q2,o2⟩
theorem TA.round {c:Nat} {L:List AV} {o:Option (List Int×List Int)} (ev:Ev env call b ⟨ts,hh,D.map .rQ,.no⟩ .normal ⟨L,hk,.rQ c::D.map .rQ,.no⟩) (n1:hh.nx≤hk.nx) (uQ:(Nat→AV)→List AV) (hl:L=uQ fun k=>L.getD k AV.undef) (ih:∀x,TA call b (uQ x) ex h hk (c::D) tn tr o):TA call b ts ex h hh D tn tr o:=by
 have q:=ih fun k=>L.getD k AV.undef
 rw[←hl] at q
 cases o with
 | none=>
   obtain ⟨y,h2,D',x,y1,n2,g⟩:=q
   exact ⟨y,h2,D',Ev.loop ev x,y1,Nat.le_trans n1 n2,g⟩
 | some v=>
   obtain ⟨z1,z2,y,h2,D',x,y1,n2,g⟩:=q
   exact ⟨z1,z2,y,h2,D',Ev.loop ev x,y1,Nat.le_trans n1 n2,g⟩
end
theorem zX {n:Nat} {D:List Nat} {h:aw} (y:Tidy h) (c:Dt n h D):Tidy (shut D h)∧(∀k w,w≠ .pG→h.get k=some w→(shut D h).get k=some w)∧∀k w,k<n→h.get k=some w→(shut D h).get k=some w:=by
 have WR:∀(D:List Nat) (h:aw) (k:Nat),k∈D→(shut D h).get k=none:=by
  intro D
  induction D with
  | nil=>intro h k m;cases m
  | cons r D ih=>
    intro h k m
    rw[shut]
    by_cases e:k∈D
    · exact ih _ _ e
    · rcases List.mem_cons.1 m with rfl | m
      · rw[kM e,aw.bU]
      · exact absurd m e
 have wb:∀k w,w≠ .pG→h.get k=some w→(shut D h).get k=some w:=fun k w nd e=>by
  rw[kM]
  · exact e
  · intro m
    have:=(c.at_ k m).2
    rw[e] at this
    exact nd (Option.some.inj this)
 refine ⟨fun k w g=>?_,wb,fun k w hk e=>?_⟩
 · rw[nQ]
   by_cases m:k∈D
   · rw[WR D h k m] at g;cases g
   · rw[kM m] at g;exact y _ _ g
 · rw[kM]
   · exact e
   · intro m
     have:=(c.at_ k m).1
     omega
theorem dK.zX {n:Nat} {D:List Nat} {g h:aw} {z:AV} {L:List AV} (y:Tidy h) (c:Dt n h D) (o:dK 3 g h z L):dK 3 g (shut D h) z L:=by
 rcases o with ⟨rfl,e0⟩ | ⟨hn,p,op,rfl,hp,hg⟩
 · exact .inl ⟨rfl,e0⟩
 · exact .inr ⟨hn,p,op,rfl,hp,(aJ.zX y c).2.1 _ _ (by intro e;cases e) hg⟩
def CO (q:ay) (l_:List aM):Nat→Nat→Option (List Int×List Int)
 | 0,_=>none
 | k+1,i0=>bif (!List.isEmpty (ct q l_ [] ((i0:Nat):Int))) then some (km (vV (ct q l_ [] ((i0:Nat):Int))),km (r6 (ct q l_ [] ((i0:Nat):Int)))) else CO q l_ k (i0+1)
theorem GZ {d:Nat} {h:aw} {lv:AV} {q:ay} {l_:List aM} {bQ:Nat} (bH:Tidy h) (hq:aA.ok h q) (hl:aQ h lv l_) (jP:∀i,i<l_.length→0≤(l_.g i).aN∧(l_.g i).aN<(q.ar.length:Int)) (p1:l_.length≤12) (p2:q.ar.length≤8) (Pd:0≤q.bad) (WS:q.bad≤8) (hb:h.nx≤bQ):∀(k i0:Nat) (x:Nat→AV) (hh:aw) (D:List Nat),i0+k=(q.bad+1).toNat→Tidy hh→Has h hh→h.nx≤hh.nx→hh.get bQ=some (.cells (aA.c q) 26 false)→Dt h.nx hh D→
 TA (cJ (d+12)) GX ((x 0)::lv::(Pt bQ)::rx x 3 18 ((Zi (q.bad+1))::(Zn i0)::rx x 23 20 [])) (.exit 0) h hh D (fun y=>rx y 0 43 []) (fun z1 z2 y=>rx y 0 4 (z1::z2::Zi 0::rx y 7 36 [])) (CO q l_ k i0)
 | 0,i0,x,hh,D,jZ,aL,aX,gI,gQ,cd=>by
   have T_q:=aL _ _ gQ
   have q1:(decide (((i0:Nat):Int)<(q.bad+1)))=false:=d!
   have ev:=pkd (D.map .rQ) (D.map .rQ) (d+12) GX ((x 0)::lv::(Pt bQ)::rx x 3 18 ((Zi (q.bad+1))::(Zn i0)::rx x 23 20 [])) hh (.exit 0) hh (VV (bz 3 false false .i64 ((i0:Nat):Int) (q.bad+1))<|BB q1<|ZZ) k!
   exact TA.out ev aL (Nat.le_refl _) aX cd k!
 | k+1,i0,x,hh,D,jZ,aL,aX,gI,gQ,cd=>by
   have T_q:=aL _ _ gQ
   rw[CO]
   rcases Bool.eq_false_or_eq_true (!List.isEmpty (ct q l_ [] ((i0:Nat):Int))) with f1 | f1
   · rw[f1,aj]
     have q1:(decide (((i0:Nat):Int)<(q.bad+1)))=true:=d!
     obtain ⟨h2,iQ,fJ,uA,dh,dz⟩:=gu aL (aY.cells [(AV.int .u64 0)] 51 false)
     have fl:Has h h2:=aX.trans dz
     have xR:Has hh h2:=dz
     obtain ⟨h3,s7,eZ,I4,oR,dL⟩:=gu fJ (aY.cells [(AV.int .u64 0)] 51 false)
     have fu:Has h h3:=fl.trans dL
     have G6:Has hh h3:=xR.trans dL
     obtain ⟨h4,GU,ng,K3,vH,pU⟩:=gu eZ (aY.cells [(AV.bool false)] 4 false)
     have mA:Has h h4:=fu.trans pU
     have G7:Has hh h4:=G6.trans pU
     obtain ⟨h5,Ga,jJ,RY,Ai,kQ⟩:=BN (t:=51) (n:=1) (i:=hh.nx) (o:=0) (v:=(AV.int .u64 255)) (N:=[(AV.int .u64 255)]) ng (pU _ _ (dL _ _ dh)) k! rfl k! k! (by simp only[AV.cells,List.all_cons,List.all_nil,Bool.and_true,Bool.and_self,eI,dt,eJ,eK,cI,gU,gV,gW,gX,gY,eL])
     have iP:Has h h5:=Has.cm mA kQ bH o!
     have G8:Has hh h5:=Has.cm G7 kQ aL o!
     obtain ⟨h6,Ts,mf,Df,pR,nr⟩:=BN (t:=51) (n:=1) (i:=h2.nx) (o:=0) (v:=(AV.int .u64 0)) (N:=[(AV.int .u64 0)]) jJ (kQ _ _ o! (pU _ _ oR)) k! rfl k! k! (by simp only[AV.cells,List.all_cons,List.all_nil,Bool.and_true,Bool.and_self,eI,dt,eJ,eK,cI,gU,gV,gW,gX,gY,eL])
     have mg:Has h h6:=Has.cm iP nr bH o!
     have jj:Has hh h6:=Has.cm G8 nr aL o!
     obtain ⟨h7,pS,iR,Dd,kf,dN⟩:=BN (t:=4) (n:=1) (i:=h3.nx) (o:=0) (v:=(AV.bool false)) (N:=[(AV.bool false)]) mf (nr _ _ o! (kQ _ _ o! vH)) k! rfl k! k! (by simp only[AV.cells,List.all_cons,List.all_nil,Bool.and_true,Bool.and_self,eI,dt,eJ,eK,cI,gU,gV,gW,gX,gY,eL])
     have hI:Has h h7:=Has.cm mg dN bH o!
     have kl:Has hh h7:=Has.cm jj dN aL o!
     obtain ⟨bq9,TB,TC,TD,h8,Gm,tg,Sr,As,TE,LS,LU,LV,af4⟩:=aaE (d:=d+10) iR q ((i0:Nat):Int) (lv:=lv) (rv:=AV.aK) (aA.mono hI hq) hl.scalar (by rfl)
     have qu:Has h h8:=hI.trans As
     have mQ:Has hh h8:=kl.trans As
     obtain ⟨uT,LW,tc,I_,LX,LY,AN,G9,zb⟩:=JU (d:=d) (g:=hh) (hh:=h8) (q:=q) (l:=l_) (m:=((i0:Nat):Int)) (b9:=hh.nx) (b10:=h2.nx) (b11:=h3.nx) (bq:=bq9) (bl:=TB) (bm:=TC) (br:=TD) (fun k_=>(((x 0)::lv::(Pt bQ)::rx x 3 5 ((Zn i0)::(Pt hh.nx)::(Pt h2.nx)::(Pt h3.nx)::rx x 12 9 ((Zi (q.bad+1))::(Zn i0)::(AV.bool (decide (((i0:Nat):Int)<(q.bad+1))))::(Zn i0)::(AV.agg [(AV.str q.name),(Zi q.af),(Zi q.ab),(Zi q.aC),(Zi q.aD),(Zi q.bad),q.ao])::lv::(Zn i0)::(AV.func 42 [] [(Pt bq9),(Pt TC),(Pt TD),(Pt TB)])::rx x 29 14 []))):List AV).getD k_ AV.undef) (D.map .rQ) aL (aA.mono aX hq) (hl.has aX) p1 p2 jP o! o! o! o! o! tg mQ (As _ _ (dN _ _ o! (nr _ _ o! Ai))) (As _ _ (dN _ _ o! pR)) (As _ _ kf) TE LU LV LS rfl
     have oT:Has h uT:=Has.GY qu zb bH o! o! o!
     have CP:Has hh uT:=Has.GY mQ zb aL o! o! o!
     have q14:(!List.isEmpty (ct q l_ [] ((i0:Nat):Int)))=true:=f1
     obtain ⟨z15,xJ,adB,Ez,adC,adD⟩:=zW (d:=d+10) (vV (ct q l_ [] ((i0:Nat):Int))) tc
     have zQ:=Ez.y
     have ade:uT.nx≤xJ.nx:=Ez.n
     have zR:Has h xJ:=oT.trans Ez.a
     have TF:Has hh xJ:=CP.trans Ez.a
     have O2:Has uT xJ:=Ez.a
     have af5:=adC.small
     obtain ⟨z18,SM,adE,EA,adF,adG⟩:=zW (d:=d+10) (r6 (ct q l_ [] ((i0:Nat):Int))) zQ
     have SN:=EA.y
     have agV:xJ.nx≤SM.nx:=EA.n
     have SO:Has h SM:=zR.trans EA.a
     have TG:Has hh SM:=TF.trans EA.a
     have O3:Has uT SM:=O2.trans EA.a
     have EB:Has xJ SM:=EA.a
     have af6:=adF.small
     have ev:=pkd (D.map .rQ) (.rQ h8.nx::D.map .rQ) (d+12) GX ((x 0)::lv::(Pt bQ)::rx x 3 18 ((Zi (q.bad+1))::(Zn i0)::rx x 23 20 [])) hh .ret SM (VV (bz 3 false false .i64 ((i0:Nat):Int) (q.bad+1))<|BB q1<|CN 2<|NN iQ (fun i=>(Pt i))<|NN s7 (fun i=>(Pt i))<|NN GU (fun i=>(Pt i))<|SS Ga<|SS Ts<|SS pS<|MM (aB 26 0 (AV.agg [(AV.str q.name),(Zi q.af),(Zi q.ab),(Zi q.aC),(Zi q.aD),(Zi q.bad),q.ao]) (dN _ _ o! (nr _ _ o! (kQ _ _ o! (pU _ _ (dL _ _ (dz _ _ gQ)))))) k!)<|CN 2<|EE Gm<|LL LW<|MM (aB 4 0 (AV.bool (!List.isEmpty (ct q l_ [] ((i0:Nat):Int)))) G9 k!)<|BM q14 (aB 51 0 (AV.int .u64 (vV (ct q l_ [] ((i0:Nat):Int)))) LY k!)<|MM (aB 51 0 (AV.int .u64 (r6 (ct q l_ [] ((i0:Nat):Int)))) AN k!)<|EE adB<|EE adE<|CN 3<|HH (aB 51 0 (AV.int .u64 (vV (ct q l_ [] ((i0:Nat):Int)))) LY k!)<|HH (show AV.same 20 (AV.int .u64 (vV (ct q l_ [] ((i0:Nat):Int)))) (AV.int .u64 (vV (ct q l_ [] ((i0:Nat):Int))))=true from aG 19 _ _)<|HH (aB 51 0 (AV.int .u64 (r6 (ct q l_ [] ((i0:Nat):Int)))) AN k!)<|HH (show AV.same 20 (AV.int .u64 (r6 (ct q l_ [] ((i0:Nat):Int)))) (AV.int .u64 (r6 (ct q l_ [] ((i0:Nat):Int))))=true from aG 19 _ _)<|HH (aB 51 0 (AV.int .u64 (r6 (ct q l_ [] ((i0:Nat):Int)))) (Ez.a _ _ AN) k!)<|HH (show AV.same 20 (AV.int .u64 (r6 (ct q l_ [] ((i0:Nat):Int)))) (AV.int .u64 (r6 (ct q l_ [] ((i0:Nat):Int))))=true from aG 19 _ _)<|ZZ) k!
     exact TA.ret (r:=(_,_)) ev SN o! SO (cd.more aL o! o! (h:=h8) TG (O3 _ _ LX)) (adC.has EB) ((adD.has EB).le o!) adF (adG.le o!) k!
   · rw[f1,ai]
     have q1:(decide (((i0:Nat):Int)<(q.bad+1)))=true:=d!
     obtain ⟨h2,iQ,fJ,uA,dh,dz⟩:=gu aL (aY.cells [(AV.int .u64 0)] 51 false)
     have fl:Has h h2:=aX.trans dz
     have xR:Has hh h2:=dz
     obtain ⟨h3,s7,eZ,I4,oR,dL⟩:=gu fJ (aY.cells [(AV.int .u64 0)] 51 false)
     have fu:Has h h3:=fl.trans dL
     have G6:Has hh h3:=xR.trans dL
     obtain ⟨h4,GU,ng,K3,vH,pU⟩:=gu eZ (aY.cells [(AV.bool false)] 4 false)
     have mA:Has h h4:=fu.trans pU
     have G7:Has hh h4:=G6.trans pU
     obtain ⟨h5,Ga,jJ,RY,Ai,kQ⟩:=BN (t:=51) (n:=1) (i:=hh.nx) (o:=0) (v:=(AV.int .u64 255)) (N:=[(AV.int .u64 255)]) ng (pU _ _ (dL _ _ dh)) k! rfl k! k! (by simp only[AV.cells,List.all_cons,List.all_nil,Bool.and_true,Bool.and_self,eI,dt,eJ,eK,cI,gU,gV,gW,gX,gY,eL])
     have iP:Has h h5:=Has.cm mA kQ bH o!
     have G8:Has hh h5:=Has.cm G7 kQ aL o!
     obtain ⟨h6,Ts,mf,Df,pR,nr⟩:=BN (t:=51) (n:=1) (i:=h2.nx) (o:=0) (v:=(AV.int .u64 0)) (N:=[(AV.int .u64 0)]) jJ (kQ _ _ o! (pU _ _ oR)) k! rfl k! k! (by simp only[AV.cells,List.all_cons,List.all_nil,Bool.and_true,Bool.and_self,eI,dt,eJ,eK,cI,gU,gV,gW,gX,gY,eL])
     have mg:Has h h6:=Has.cm iP nr bH o!
     have jj:Has hh h6:=Has.cm G8 nr aL o!
     obtain ⟨h7,pS,iR,Dd,kf,dN⟩:=BN (t:=4) (n:=1) (i:=h3.nx) (o:=0) (v:=(AV.bool false)) (N:=[(AV.bool false)]) mf (nr _ _ o! (kQ _ _ o! vH)) k! rfl k! k! (by simp only[AV.cells,List.all_cons,List.all_nil,Bool.and_true,Bool.and_self,eI,dt,eJ,eK,cI,gU,gV,gW,gX,gY,eL])
     have hI:Has h h7:=Has.cm mg dN bH o!
     have kl:Has hh h7:=Has.cm jj dN aL o!
     obtain ⟨bq9,TB,TC,TD,h8,Gm,tg,Sr,As,TE,LS,LU,LV,af4⟩:=aaE (d:=d+10) iR q ((i0:Nat):Int) (lv:=lv) (rv:=AV.aK) (aA.mono hI hq) hl.scalar (by rfl)
     have qu:Has h h8:=hI.trans As
     have mQ:Has hh h8:=kl.trans As
     obtain ⟨uT,LW,tc,I_,LX,LY,AN,G9,zb⟩:=JU (d:=d) (g:=hh) (hh:=h8) (q:=q) (l:=l_) (m:=((i0:Nat):Int)) (b9:=hh.nx) (b10:=h2.nx) (b11:=h3.nx) (bq:=bq9) (bl:=TB) (bm:=TC) (br:=TD) (fun k_=>(((x 0)::lv::(Pt bQ)::rx x 3 5 ((Zn i0)::(Pt hh.nx)::(Pt h2.nx)::(Pt h3.nx)::rx x 12 9 ((Zi (q.bad+1))::(Zn i0)::(AV.bool (decide (((i0:Nat):Int)<(q.bad+1))))::(Zn i0)::(AV.agg [(AV.str q.name),(Zi q.af),(Zi q.ab),(Zi q.aC),(Zi q.aD),(Zi q.bad),q.ao])::lv::(Zn i0)::(AV.func 42 [] [(Pt bq9),(Pt TC),(Pt TD),(Pt TB)])::rx x 29 14 []))):List AV).getD k_ AV.undef) (D.map .rQ) aL (aA.mono aX hq) (hl.has aX) p1 p2 jP o! o! o! o! o! tg mQ (As _ _ (dN _ _ o! (nr _ _ o! Ai))) (As _ _ (dN _ _ o! pR)) (As _ _ kf) TE LU LV LS rfl
     have oT:Has h uT:=Has.GY qu zb bH o! o! o!
     have CP:Has hh uT:=Has.GY mQ zb aL o! o! o!
     have q14:(!List.isEmpty (ct q l_ [] ((i0:Nat):Int)))=false:=f1
     have VZ:=eR 3 false true i0 1 o!
     have ev:=pkd (D.map .rQ) (.rQ h8.nx::D.map .rQ) (d+12) GX ((x 0)::lv::(Pt bQ)::rx x 3 18 ((Zi (q.bad+1))::(Zn i0)::rx x 23 20 [])) hh .normal uT (VV (bz 3 false false .i64 ((i0:Nat):Int) (q.bad+1))<|BB q1<|CN 2<|NN iQ (fun i=>(Pt i))<|NN s7 (fun i=>(Pt i))<|NN GU (fun i=>(Pt i))<|SS Ga<|SS Ts<|SS pS<|MM (aB 26 0 (AV.agg [(AV.str q.name),(Zi q.af),(Zi q.ab),(Zi q.aC),(Zi q.aD),(Zi q.bad),q.ao]) (dN _ _ o! (nr _ _ o! (kQ _ _ o! (pU _ _ (dL _ _ (dz _ _ gQ)))))) k!)<|CN 2<|EE Gm<|LL LW<|MM (aB 4 0 (AV.bool (!List.isEmpty (ct q l_ [] ((i0:Nat):Int)))) G9 k!)<|BV q14 VZ<|CC<|ZZ) k!
     exact TA.round ev o! _ k! (fun x=>GZ bH hq hl jP p1 p2 Pd WS hb k (i0+1) x uT _ o! tc oT o! (zb _ _ o! o! o! (As _ _ (dN _ _ o! (nr _ _ o! (kQ _ _ o! (pU _ _ (dL _ _ (dz _ _ gQ)))))))) (cd.more aL o! o! (h:=h8) CP ((Has.refl _) _ _ LX)))
def ca (q:ay) (l_:List aM):List Int×List Int×Int:=bif !decide (bf q l_=0) then ([],[],bf q l_) else (match CO q l_ (q.bad+1).toNat 0 with | none=>([],[],0) | some r=>(r.1,r.2,0))
theorem G_ {d:Nat} {h:aw} {lv:AV} {q:ay} {l_:List aM} (bH:Tidy h) (hq:aA.ok h q) (hl:aQ h lv l_) (p1:bf q l_=0→l_.length≤12):
 ∃z1 z2 hk,cJ (d+13) (.fn 9) [.agg (aA.c q),lv] h= .ret (.tuple [z1,z2,Zi (ca q l_).2.2]) hk∧Grow h hk∧gA hk .i64 3 z1 (ca q l_).1∧gA hk .i64 3 z2 (ca q l_).2.1:=by
 rcases Bool.eq_false_or_eq_true (!decide (bf q l_=0)) with f0 | f0
 · rw[ca,f0,aj]
   obtain ⟨h1,bD,bN,fX,aH,bZ⟩:=gu bH (aY.cells [(AV.str q.name),(Zi q.af),(Zi q.ab),(Zi q.aC),(Zi q.aD),(Zi q.bad),q.ao] 26 false)
   have bk:Has h h1:=bZ
   have k2:=jC (d:=d+1) q l_ (aA.mono bk hq) (hl.has bk) bN
   have q3:(!decide ((bf q l_)=0))=true:=d!
   have ev:=pk (d+12) rE ((AV.agg [(AV.str q.name),(Zi q.af),(Zi q.ab),(Zi q.aC),(Zi q.aD),(Zi q.bad),q.ao])::lv::jl 41) h .ret h1 (NN bD (fun i=>(Pt i))<|CN 3<|MM (aB 26 0 (AV.agg [(AV.str q.name),(Zi q.af),(Zi q.ab),(Zi q.aC),(Zi q.aD),(Zi q.bad),q.ao]) aH k!)<|CC<|EE k2<|CN 2<|VV (eh 31 false true .i64 (bf q l_) 0)<|BB q3<|CN 4<|ZZ) k!
   obtain ⟨hk,e,q⟩:=od bH rfl (a_ (v:= .tuple [.aK,.aK,Zi (bf q l_)]) Try.func9 aaK k! (.inr rfl) ev k!) bN o! bk (tL _) (.inl ⟨rfl,rfl⟩) (tL _) (.inl ⟨rfl,rfl⟩)
   exact ⟨_,_,hk,e,q⟩
 · have Us:bf q l_=0:=by cases hd:decide (bf q l_=0) with | true=>exact of_decide_eq_true hd | false=>rw[hd] at f0;cases f0
   have p1:=p1 Us
   have jP:=(fR ((iV q l_).symm.trans Us)).1
   have p2:=(fR ((iV q l_).symm.trans Us)).2.2
   have Pd:0≤q.bad:=by have:=(Ej ((iV q l_).symm.trans Us)).bad;omega
   have WS:q.bad≤8:=by have:=(Ej ((iV q l_).symm.trans Us)).bad;omega
   rw[ca,f0,ai]
   rcases Kp:CO q l_ (q.bad+1).toNat 0 with _ | ⟨A,B⟩
   · skip
     obtain ⟨h1,bD,bN,fX,aH,bZ⟩:=gu bH (aY.cells [(AV.str q.name),(Zi q.af),(Zi q.ab),(Zi q.aC),(Zi q.aD),(Zi q.bad),q.ao] 26 false)
     have bk:Has h h1:=bZ
     have k2:=jC (d:=d+1) q l_ (aA.mono bk hq) (hl.has bk) bN
     have q3:(!decide ((bf q l_)=0))=false:=d!
     have w4:IntKind.i64.wrap (q.bad+1)=q.bad+1:=wrap_i64 o! o!
     have SL:=GZ (d:=d) (bQ:=h.nx) bH hq hl jP p1 p2 Pd WS o! (q.bad+1).toNat 0 (fun k_=>(((AV.agg [(AV.str q.name),(Zi q.af),(Zi q.ab),(Zi q.aC),(Zi q.aD),(Zi q.bad),q.ao])::lv::(Pt h.nx)::AV.undef::AV.aK::AV.aK::(Zi 0)::(Zi (bf q l_))::AV.undef::AV.undef::AV.undef::AV.undef::AV.undef::(AV.agg [(AV.str q.name),(Zi q.af),(Zi q.ab),(Zi q.aC),(Zi q.aD),(Zi q.bad),q.ao])::lv::(Zi (bf q l_))::(Zi (bf q l_))::(AV.bool (!decide ((bf q l_)=0)))::AV.undef::(AV.ptr h.nx 5)::(Zi q.bad)::(Zi (q.bad+1))::(Zi 0)::jl 20):List AV).getD k_ AV.undef) h1 [] o! bN bk o! aH ⟨List.nodup_nil,fun r hr=>by cases hr⟩
     rw[Kp] at SL
     obtain ⟨yl6,h5,D_,rk,jJ,vD,Jk,TH⟩:=SL
     have iP:Has h h5:=Jk
     have ev:=pkd [] (D_.map .rQ) (d+12) rE ((AV.agg [(AV.str q.name),(Zi q.af),(Zi q.ab),(Zi q.aC),(Zi q.aD),(Zi q.bad),q.ao])::lv::jl 41) h .ret h5 (NN bD (fun i=>(Pt i))<|CN 3<|MM (aB 26 0 (AV.agg [(AV.str q.name),(Zi q.af),(Zi q.ab),(Zi q.aC),(Zi q.aD),(Zi q.bad),q.ao]) aH k!)<|CC<|EE k2<|CN 2<|VV (eh 31 false true .i64 (bf q l_) 0)<|BC q3<|MM (aB 3 5 (Zi q.bad) aH k!)<|VV (N5 3 false true w4)<|CC<|LL rk<|CN 3<|ZZ) k!
     obtain ⟨s1,s2,s3⟩:=zX jJ TH
     obtain ⟨hk,e,q⟩:=od bH rfl (F1 (L:=D_) (v:= .tuple [.aK,.aK,Zi 0]) Try.func9 aaK k! (.inr rfl) ev TH.nd (fun r hr=>(TH.at_ r hr).2) k!) s1 (by rw[nQ];omega) (fun k w e=>s3 k w (bH _ _ e) (iP _ _ e)) (tL _) (.inl ⟨rfl,rfl⟩) (tL _) (.inl ⟨rfl,rfl⟩)
     exact ⟨_,_,hk,e,q⟩
   · skip
     obtain ⟨h1,bD,bN,fX,aH,bZ⟩:=gu bH (aY.cells [(AV.str q.name),(Zi q.af),(Zi q.ab),(Zi q.aC),(Zi q.aD),(Zi q.bad),q.ao] 26 false)
     have bk:Has h h1:=bZ
     have k2:=jC (d:=d+1) q l_ (aA.mono bk hq) (hl.has bk) bN
     have q3:(!decide ((bf q l_)=0))=false:=d!
     have w4:IntKind.i64.wrap (q.bad+1)=q.bad+1:=wrap_i64 o! o!
     have SL:=GZ (d:=d) (bQ:=h.nx) bH hq hl jP p1 p2 Pd WS o! (q.bad+1).toNat 0 (fun k_=>(((AV.agg [(AV.str q.name),(Zi q.af),(Zi q.ab),(Zi q.aC),(Zi q.aD),(Zi q.bad),q.ao])::lv::(Pt h.nx)::AV.undef::AV.aK::AV.aK::(Zi 0)::(Zi (bf q l_))::AV.undef::AV.undef::AV.undef::AV.undef::AV.undef::(AV.agg [(AV.str q.name),(Zi q.af),(Zi q.ab),(Zi q.aC),(Zi q.aD),(Zi q.bad),q.ao])::lv::(Zi (bf q l_))::(Zi (bf q l_))::(AV.bool (!decide ((bf q l_)=0)))::AV.undef::(AV.ptr h.nx 5)::(Zi q.bad)::(Zi (q.bad+1))::(Zi 0)::jl 20):List AV).getD k_ AV.undef) h1 [] o! bN bk o! aH ⟨List.nodup_nil,fun r hr=>by cases hr⟩
     rw[Kp] at SL
     obtain ⟨z7,z8,yl6,h5,D_,rk,jJ,vD,Jk,TH,q1,o1,q2,o2⟩:=SL
     have iP:Has h h5:=Jk
     have ev:=pkd [] (D_.map .rQ) (d+12) rE ((AV.agg [(AV.str q.name),(Zi q.af),(Zi q.ab),(Zi q.aC),(Zi q.aD),(Zi q.bad),q.ao])::lv::jl 41) h .ret h5 (NN bD (fun i=>(Pt i))<|CN 3<|MM (aB 26 0 (AV.agg [(AV.str q.name),(Zi q.af),(Zi q.ab),(Zi q.aC),(Zi q.aD),(Zi q.bad),q.ao]) aH k!)<|CC<|EE k2<|CN 2<|VV (eh 31 false true .i64 (bf q l_) 0)<|BC q3<|MM (aB 3 5 (Zi q.bad) aH k!)<|VV (N5 3 false true w4)<|CC<|LL rk<|ZZ) k!
     obtain ⟨s1,s2,s3⟩:=zX jJ TH
     obtain ⟨hk,e,q⟩:=od bH rfl (F1 (L:=D_) (v:= .tuple [z7,z8,Zi 0]) Try.func9 aaK k! (.inr rfl) ev TH.nd (fun r hr=>(TH.at_ r hr).2) k!) s1 (by rw[nQ];omega) (fun k w e=>s3 k w (bH _ _ e) (iP _ _ e)) ((o1.zX jJ TH).zs q1.small k! k!) (o1.zX jJ TH) ((o2.zX jJ TH).zs q2.small k! k!) (o2.zX jJ TH)
     exact ⟨_,_,hk,e,q⟩
def vd:Code:=(Try.f27.body).getD .skip
theorem LZ:Try.f27.body=some vd:=by kernel_rfl
def G':Code:=(ck vd).getD 0 .skip
def fH (set:Int):Nat→Nat→List Int→List Int
 | 0,_,iS=>iS
 | dS+1,i0,iS=>(bif (qp set ((i0:Nat):Int)) then fH set dS (i0+1) (iS++[((i0:Nat):Int)]) else fH set dS (i0+1) iS)
theorem pW {d:Nat} {h:aw} (set:Int) (bH:Tidy h):∀(k_ i_:Nat) (iS:List Int) (z0:AV) (_:i_+k_=(Int.toNat 8)) (x:Nat→AV) (hh:aw) (aL:Tidy hh) (aX:Has h hh) (gI:h.nx≤hh.nx) (PE:dK 3 h hh z0 (zs .i64 iS)) (lz0:iS.length≤i_),ka (cJ (d+1)) G' ⟨((Zi set)::(x 1)::(x 2)::z0::(Zn i_)::rx x 5 12 []),hh,[],.no⟩ (.exit 0) h 3 (fun r z y=>((Zi set)::(y 1)::(y 2)::z::rx y 4 13 [])) (fun r=>zs .i64 r) (Int.toNat 8) (fH set k_ i_ iS)
 | 0,i0,iS,z0,jZ,x,hh,aL,aX,gI,PE,lz0=>by
   have q1:(decide (((i0:Nat):Int)<8))=false:=d!
   exact ka.out iS z0 rfl (pk (d+1) _ _ hh _ hh (CC<|VV (bz 3 false true .i64 ((i0:Nat):Int) 8)<|BB q1<|ZZ) k!) ⟨aL,aX,by omega⟩ PE (by show (zs _ _).length≤_;rw[oN];omega) k!
 | dS+1,i0,iS,z0,jZ,x,hh,aL,aX,gI,PE,lz0=>by
   have q1:(decide (((i0:Nat):Int)<8))=true:=d!
   have k2:=M8 (d:=d) set ((i0:Nat):Int) (by first | omega | assumption | (simp only[List.length_set,List.length_replicate,List.length_append,List.length_cons,List.length_nil,List.nil_append]<;>omega) | (rw[List.length_take];omega)) aL
   rcases Bool.eq_false_or_eq_true (qp set ((i0:Nat):Int)) with f1 | f1
   · obtain ⟨h4,GU,ng,K3,vH,pU⟩:=gu aL (aY.cells [(Zn i0)] 3 false)
     have mA:Has hh h4:=pU
     obtain ⟨z6,h5,Ty,jJ,vD,aaJ,oz7⟩:=dK.abP (k:= .i64) (h0:=h) (tys:= #[35,35]) (v:=((i0:Nat):Int)) (L:=iS) ng bH (aX.trans mA) o! (PE.has mA) vH (by first | omega | (simp<;>omega)) rfl rfl k! k! k! (bytes:=8) k! (z0:=Zi 0) k! rfl (by decide)
     have u8:=eR 3 false true i0 1 o!
     exact ka.round (by simp only[fH,f1,aj,ai]) (pk (d+1) _ _ hh _ h5 (CC<|VV (bz 3 false true .i64 ((i0:Nat):Int) 8)<|BB q1<|CN 2<|EE k2<|BB f1<|CN 2<|NN GU (fun i=>(AV.slice i 0 1 1 false))<|PP (show b8 env h4 #[35,35] z0 (AV.slice hh.nx 0 1 1 false)=some (z6,h5) from Ty)<|CN 2<|VV u8<|CC<|ZZ) k!) _ k! (fun x=>pW set bH dS (i0+1) (iS++[((i0:Nat):Int)]) z6 o! x h5 jJ aaJ o! oz7 (by first | omega | (simp<;>omega)))
   · have u4:=eR 3 false true i0 1 o!
     exact ka.round (by simp only[fH,f1,aj,ai]) (pk (d+1) _ _ hh _ hh (CC<|VV (bz 3 false true .i64 ((i0:Nat):Int) 8)<|BB q1<|CN 2<|EE k2<|BC f1<|VV u4<|CC<|ZZ) k!) _ k! (fun x=>pW set bH dS (i0+1) iS z0 o! x hh aL aX o! PE (by first | omega | (simp<;>omega)))
def mr (set:Int):List Int:=(fH set (Int.toNat 8) 0 ([]))
theorem CQ {d:Nat} {h:aw} (set:Int) (bH:Tidy h):∃z hk,cJ (d+2) (.fn 27) [(Zi set)] h= .ret z hk∧Grow h hk∧gA hk .i64 3 z (mr set)∧dK 3 h hk z (zs .i64 (mr set)):=by
 obtain ⟨zo3,yl1,h2,B8,B9,oz4,ln5⟩:=pW (d:=d) (h:=h) set bH (Int.toNat 8) 0 ([]) AV.aK o! (fun k_=>(((Zi set)::AV.undef::AV.aK::AV.aK::(Zi 0)::jl 12):List AV).getD k_ AV.undef) h bH (Has.refl _) (Nat.le_refl _) (.inl ⟨rfl,rfl⟩) (Nat.zero_le _)
 rw[oN] at ln5
 have fJ:=B9.y
 have Jm:h.nx≤h2.nx:=B9.n
 have fl:Has h h2:=B9.a
 have e:mr set=(fH set (Int.toNat 8) 0 ([])):=by simp only[mr,aj,ai]
 rw[e]
 have oz:=dK.le (h0:=h) oz4 o!
 exact ⟨zo3,gH rfl (a_ Try.func27 LZ rfl (.inr rfl) (pk (d+1) _ _ h _ h2 (CN 3<|LL B8<|CN 2<|ZZ) k!) k!) bH ⟨fJ,fl,by omega⟩ (P:=fun hh=>gA hh .i64 3 zo3 (fH set (Int.toNat 8) 0 ([]))∧dK 3 h hh zo3 (zs .i64 (fH set (Int.toNat 8) 0 ([])))) ⟨oz.zs o! k! k!,oz⟩ fun v=>⟨oz.IM v k! k!,oz.Xw v⟩⟩
end
end Go.Proofs.aJ
