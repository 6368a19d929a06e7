import Derived.Test.YtobmbjlcklkpoaaW0
import Derived.Test.YtobmbjlcklkpoaaW2
namespace Go.Proofs.aJ
open Go.Proofs Ab
noncomputable section
set_option maxRecDepth 100000
set_option maxHeartbeats 4000000
set_option linter.unusedVariables false
set_option linter.unusedSimpArgs false
def I5:Code:=(Try.f48.body).getD .skip
theorem RZ:Try.f48.body=some I5:=by kernel_rfl
def kD (a:Span) (b:Span):Span:=(⟨(imax a.aP b.aP),(yK a.aF b.aF)⟩:Span)
theorem I6 {d:Nat} {h:aw} (a:Span) (b:Span) (Oy:aA.ok h a) (Pq:aA.ok h b) (bH:Tidy h):cJ (d+1) (.fn 48) [(AV.agg [(Zi a.aP),(Zi a.aF)]),(AV.agg [(Zi b.aP),(Zi b.aF)])] h= .ret (AV.agg [(Zi (kD a b).aP),(Zi (kD a b).aF)]) h:=by
 obtain ⟨h1,bD,bN,fX,aH,bZ⟩:=gu bH (aY.cells [(Zi a.aP),(Zi a.aF)] 23 false)
 have bk:Has h h1:=bZ
 obtain ⟨h2,iQ,fJ,uA,dh,dz⟩:=gu bN (aY.cells [(Zi b.aP),(Zi b.aF)] 23 false)
 have fl:Has h h2:=bk.trans dz
 obtain ⟨h3,s7,eZ,I4,oR,dL⟩:=gu fJ (aY.cells [(Zi 0),(Zi 0)] 23 false)
 have fu:Has h h3:=fl.trans dL
 obtain ⟨h4,R0,ng,K3,vH,zI⟩:=pM (t:=23) (n:=2) (i:=h2.nx) (L:=[(Zi (imax a.aP b.aP)),(Zi (yK a.aF b.aF))]) eZ oR k! rfl rfl (by simp only[AV.cells,List.all_cons,List.all_nil,Bool.and_true,Bool.and_self,eI,dt,eJ,eK,cI,gU,gV,gW,gX,gY,eL])
 have mA:Has h h4:=Has.cm fu zI bH o!
 have e:kD a b=(⟨(imax a.aP b.aP),(yK a.aF b.aF)⟩:Span):=by simp only[kD,aj,ai]
 rw[e]
 exact az rfl (h_ (a:=4) (t:=23) (i:=h2.nx) Try.func48 RZ rfl (.inr rfl) (pk (d) _ _ h _ h4 (NN bD (fun i=>(Pt i))<|NN iQ (fun i=>(Pt i))<|NN s7 (fun i=>(Pt i))<|CC<|MM (aB 3 0 (Zi a.aP) (dL _ _ (dz _ _ aH)) k!)<|CC<|MM (aB 3 0 (Zi b.aP) (dL _ _ dh) k!)<|CN 2<|MM (aB 3 1 (Zi a.aF) (dL _ _ (dz _ _ aH)) k!)<|CC<|MM (aB 3 1 (Zi b.aF) (dL _ _ dh) k!)<|CN 2<|SS R0<|ZZ) k!) k! (kL vH k!)) mA rfl
def rl:Code:=(Try.f25.body).getD .skip
theorem Ea:Try.f25.body=some rl:=by kernel_rfl
def I7:Code:=(ck rl).getD 0 .skip
def I8:Code:=(ck rl).getD 1 .skip
def jd (l_:List cu) (q:ay) (i0:Nat):Nat→Nat→Option (Bool)
 | 0,_=>none
 | bC+1,i1=>(bif (nU (kD (cR q (l_.g i0) (l_.g i1).time) (⟨(l_.g i1).aq,(l_.g i1).ak⟩:Span))) then some false else jd l_ q i0 bC (i1+1))
theorem rm {d:Nat} {h:aw} (dB:AV) (i0:Nat) (l_:List cu) (q:ay) (dC:Nat) (mz:aQ h dB l_) (ql:q.name.length<2^60) (s9:aQ h q.ao q.ar) (vF:aA.ok h q) (IY:i0<l_.length):∀(k_ i_:Nat) (_:i_+k_=l_.length) (x:Nat→AV) (hh:aw) (aL:Tidy hh) (aX:Has h hh) (cU:hh.get dC=some (aY.cells [(AV.str q.name),(Zi q.af),(Zi q.ab),(Zi q.aC),(Zi q.aD),(Zi q.bad),q.ao] 26 false)),aU (cJ (d+1)) I8 ⟨((x 0)::dB::(Pt dC)::(x 3)::(x 4)::(Zn i0)::(Zn i_)::rx x 7 30 []),hh,[],.no⟩ (.exit 2) hh (fun y=>((y 0)::dB::(Pt dC)::(y 3)::(y 4)::(Zn i0)::rx y 6 31 [])) (fun r y=>((y 0)::dB::(Pt dC)::(y 3)::(AV.bool r)::(Zn i0)::rx y 6 31 [])) (jd l_ q i0 k_ i_)
 | 0,i1,jZ,x,hh,aL,aX,cU=>by
   have B0:=mz.small
   have B1:=s9.small
   have BS:=aL _ _ cU
   have ie:dw (some (.slice 88)) (some dB)=some (Zn l_.length):=(mz.has aX).len
   have q2:(decide (((i1:Nat):Int)<((l_.length:Nat):Int)))=false:=d!
   exact aU.out rfl (pk (d+1) _ _ hh _ hh (CN 2<|VV ie<|VV (bz 3 false false .i64 ((i1:Nat):Int) ((l_.length:Nat):Int))<|BB q2<|ZZ) k!) (Grow.refl aL) k!
 | bC+1,i1,jZ,x,hh,aL,aX,cU=>by
   have B0:=mz.small
   have B1:=s9.small
   have BS:=aL _ _ cU
   have ie:dw (some (.slice 88)) (some dB)=some (Zn l_.length):=(mz.has aX).len
   have q2:(decide (((i1:Nat):Int)<((l_.length:Nat):Int)))=true:=d!
   obtain ⟨p4,q5,mH⟩:=(mz.has aX).elem (i:=i0) o!
   have py:di env (some (.slice 88)) (some dB) (some (Zn i0))=some (AV.ptr p4 q5):=mH
   have pz:bA env hh 88 (AV.ptr p4 q5)=some (AV.agg [(Zi (l_.g i0).time),(Zi (l_.g i0).aq),(Zi (l_.g i0).ak)]):=(mz.has aX).load o! mH
   obtain ⟨p8,q9,IN⟩:=(mz.has aX).elem (i:=i1) o!
   have Dc:di env (some (.slice 88)) (some dB) (some (Zn i1))=some (AV.ptr p8 q9):=IN
   have xb:bA env hh 3 (AV.ptr p8 (q9+0))=some (Zi (l_.g i1).time):=(mz.has aX).part (t:=3) (j:=0) o! IN k! rfl
   obtain ⟨Pv,Pw,qm⟩:=(mz.has aX).elem (i:=i1) o!
   have BU:di env (some (.slice 88)) (some dB) (some (Zn i1))=some (AV.ptr Pv Pw):=qm
   have pj:bA env hh 23 (AV.ptr Pv (Pw+1))=some (AV.agg [(Zi (l_.g i1).aq),(Zi (l_.g i1).ak)]):=(mz.has aX).Xv (t:=23) (j:=1) (n:=2) o! qm k! k! (by decide) rfl
   have Po:=BZ (d:=d) q (l_.g i0) (l_.g i1).time (aA.mono aX vF) trivial aL
   have k16:=I6 (d:=d) (cR q (l_.g i0) (l_.g i1).time) (⟨(l_.g i1).aq,(l_.g i1).ak⟩:Span) trivial trivial aL
   have k17:=OE (d:=d) (kD (cR q (l_.g i0) (l_.g i1).time) (⟨(l_.g i1).aq,(l_.g i1).ak⟩:Span)) trivial aL
   have Zm:AV.same 20 (AV.agg [(AV.str q.name),(Zi q.af),(Zi q.ab),(Zi q.aC),(Zi q.aD),(Zi q.bad),q.ao]) (AV.agg [(AV.str q.name),(Zi q.af),(Zi q.ab),(Zi q.aC),(Zi q.aD),(Zi q.bad),q.ao])=true:=dx 18 (hD (fun n=>iJ n _) (hD (fun n=>aG n _ _) (hD (fun n=>aG n _ _) (hD (fun n=>aG n _ _) (hD (fun n=>aG n _ _) (hD (fun n=>aG n _ _) (hD (s9.has aX).same AF)))))))
   have c19:AV.same 20 (AV.agg [(Zi (l_.g i0).time),(Zi (l_.g i0).aq),(Zi (l_.g i0).ak)]) (AV.agg [(Zi (l_.g i0).time),(Zi (l_.g i0).aq),(Zi (l_.g i0).ak)])=true:=dx 18 (hD (fun n=>aG n _ _) (hD (fun n=>aG n _ _) (hD (fun n=>aG n _ _) AF)))
   have c20:AV.same 20 (AV.agg [(Zi (l_.g i1).aq),(Zi (l_.g i1).ak)]) (AV.agg [(Zi (l_.g i1).aq),(Zi (l_.g i1).ak)])=true:=dx 18 (hD (fun n=>aG n _ _) (hD (fun n=>aG n _ _) AF))
   rcases Bool.eq_false_or_eq_true (nU (kD (cR q (l_.g i0) (l_.g i1).time) (⟨(l_.g i1).aq,(l_.g i1).ak⟩:Span))) with f1 | f1
   · exact aU.ret false (by simp only[jd,f1,aj,ai]) (pk (d+1) _ _ hh _ hh (CN 2<|VV ie<|VV (bz 3 false false .i64 ((i1:Nat):Int) ((l_.length:Nat):Int))<|BM q2 (aB 26 0 (AV.agg [(AV.str q.name),(Zi q.af),(Zi q.ab),(Zi q.aC),(Zi q.aD),(Zi q.bad),q.ao]) cU k!)<|CN 2<|VV py<|MM pz<|CN 2<|VV Dc<|CC<|MM xb<|CN 2<|VV BU<|CC<|MM pj<|EE Po<|EE k16<|EE k17<|HH (aB 26 0 (AV.agg [(AV.str q.name),(Zi q.af),(Zi q.ab),(Zi q.aC),(Zi q.aD),(Zi q.bad),q.ao]) cU k!)<|HH Zm<|HH pz<|HH c19<|HH xb<|HH (show AV.same 20 (Zi (l_.g i1).time) (Zi (l_.g i1).time)=true from aG 19 _ _)<|HH pj<|HH c20<|HH pj<|HH c20<|BC f1<|ZZ) k!) (Grow.refl aL) k!
   · have u22:=eR 3 false true i1 1 o!
     exact aU.round (by simp only[jd,f1,aj,ai]) (pk (d+1) _ _ hh _ hh (CN 2<|VV ie<|VV (bz 3 false false .i64 ((i1:Nat):Int) ((l_.length:Nat):Int))<|BM q2 (aB 26 0 (AV.agg [(AV.str q.name),(Zi q.af),(Zi q.ab),(Zi q.aC),(Zi q.aD),(Zi q.bad),q.ao]) cU k!)<|CN 2<|VV py<|MM pz<|CN 2<|VV Dc<|CC<|MM xb<|CN 2<|VV BU<|CC<|MM pj<|EE Po<|EE k16<|EE k17<|HH (aB 26 0 (AV.agg [(AV.str q.name),(Zi q.af),(Zi q.ab),(Zi q.aC),(Zi q.aD),(Zi q.bad),q.ao]) cU k!)<|HH Zm<|HH pz<|HH c19<|HH xb<|HH (show AV.same 20 (Zi (l_.g i1).time) (Zi (l_.g i1).time)=true from aG 19 _ _)<|HH pj<|HH c20<|HH pj<|HH c20<|BC f1<|VV u22<|CC<|ZZ) k!) (Grow.refl aL) _ k! (fun x=>rm dB i0 l_ q dC mz ql s9 vF IY bC (i1+1) o! x hh aL aX cU)
def je (l_:List cu) (q:ay):Nat→Nat→Option (Bool)
 | 0,_=>none
 | dS+1,i0=>(match (jd l_ q i0 l_.length 0) with | none=>je l_ q dS (i0+1) | some rr3=>some rr3)
theorem rn {d:Nat} {h:aw} (dB:AV) (l_:List cu) (q:ay) (cC:Nat) (bI:aQ h dB l_) (eO:q.name.length<2^60) (kP:aQ h q.ao q.ar) (ma:aA.ok h q):∀(k_ i_:Nat) (_:i_+k_=l_.length) (x:Nat→AV) (hh:aw) (aL:Tidy hh) (aX:Has h hh) (bJ:hh.get cC=some (aY.cells [(AV.str q.name),(Zi q.af),(Zi q.ab),(Zi q.aC),(Zi q.aD),(Zi q.bad),q.ao] 26 false)),aU (cJ (d+1)) I7 ⟨((x 0)::dB::(Pt cC)::(x 3)::(x 4)::(Zn i_)::rx x 6 31 []),hh,[],.no⟩ (.exit 0) hh (fun y=>((y 0)::dB::(Pt cC)::rx y 3 34 [])) (fun r y=>((y 0)::dB::(Pt cC)::(y 3)::(AV.bool r)::rx y 5 32 [])) (je l_ q k_ i_)
 | 0,i0,jZ,x,hh,aL,aX,bJ=>by
   have fN:=bI.small
   have rj:=kP.small
   have pP:=aL _ _ bJ
   have ie:dw (some (.slice 88)) (some dB)=some (Zn l_.length):=(bI.has aX).len
   have q2:(decide (((i0:Nat):Int)<((l_.length:Nat):Int)))=false:=d!
   exact aU.out rfl (pk (d+1) _ _ hh _ hh (CN 2<|VV ie<|VV (bz 3 false false .i64 ((i0:Nat):Int) ((l_.length:Nat):Int))<|BB q2<|ZZ) k!) (Grow.refl aL) k!
 | dS+1,i0,jZ,x,hh,aL,aX,bJ=>by
   have fN:=bI.small
   have rj:=kP.small
   have pP:=aL _ _ bJ
   have ie:dw (some (.slice 88)) (some dB)=some (Zn l_.length):=(bI.has aX).len
   have q2:(decide (((i0:Nat):Int)<((l_.length:Nat):Int)))=true:=d!
   cases Gb:jd l_ q i0 l_.length 0 with
   | none=>
     obtain ⟨Un,h4,vI,I9⟩:=aU.n Gb (rm (d:=d) (h:=hh) dB i0 l_ q cC (bI.has aX) eO (kP.has aX) (aA.mono aX ma) o! l_.length 0 o! (fun k_=>(((x 0)::dB::(Pt cC)::(x 3)::(x 4)::(Zn i0)::(Zi 0)::(Zn i0)::dB::(Zn l_.length)::(AV.bool (decide (((i0:Nat):Int)<((l_.length:Nat):Int))))::rx x 11 26 []):List AV).getD k_ AV.undef) hh aL (Has.refl _) bJ)
     have ng:=I9.y
     have R1:hh.nx≤h4.nx:=I9.n
     have mA:Has hh h4:=I9.a
     have u5:=eR 3 false true i0 1 o!
     exact aU.round (by simp only[je,Gb,aj,ai]) (pk (d+1) _ _ hh _ h4 (CN 2<|VV ie<|VV (bz 3 false false .i64 ((i0:Nat):Int) ((l_.length:Nat):Int))<|BC q2<|LL vI<|CC<|VV u5<|CC<|ZZ) k!) (⟨ng,mA,by omega⟩) _ k! (fun x=>rn dB l_ q cC bI eO kP ma dS (i0+1) o! x h4 ng (aX.trans mA) (I9.a _ _ bJ))
   | some rr3=>
     obtain ⟨Un,h4,vI,I9⟩:=aU.r Gb (rm (d:=d) (h:=hh) dB i0 l_ q cC (bI.has aX) eO (kP.has aX) (aA.mono aX ma) o! l_.length 0 o! (fun k_=>(((x 0)::dB::(Pt cC)::(x 3)::(x 4)::(Zn i0)::(Zi 0)::(Zn i0)::dB::(Zn l_.length)::(AV.bool (decide (((i0:Nat):Int)<((l_.length:Nat):Int))))::rx x 11 26 []):List AV).getD k_ AV.undef) hh aL (Has.refl _) bJ)
     have ng:=I9.y
     have R1:hh.nx≤h4.nx:=I9.n
     have mA:Has hh h4:=I9.a
     exact aU.ret rr3 (by simp only[je,Gb,aj,ai]) (pk (d+1) _ _ hh _ h4 (CN 2<|VV ie<|VV (bz 3 false false .i64 ((i0:Nat):Int) ((l_.length:Nat):Int))<|BC q2<|LL vI<|ZZ) k!) (⟨ng,mA,by omega⟩) k!
def fC (q:ay) (l_:List cu):Bool:=(match (je l_ q l_.length 0) with | none=>true | some K4=>K4)
theorem Eb {d:Nat} {h:aw} {dB:AV} (q:ay) (l_:List cu) (eP:aA.ok h q) (eY:aQ h dB l_) (bH:Tidy h):cJ (d+2) (.fn 25) [(AV.agg [(AV.str q.name),(Zi q.af),(Zi q.ab),(Zi q.aC),(Zi q.aD),(Zi q.bad),q.ao]),dB] h= .ret (AV.bool (fC q l_)) h:=by
 have oP:=eY.small
 have fW:=eP.2.small
 obtain ⟨h1,bD,bN,fX,aH,bZ⟩:=gu bH (aY.cells [(AV.str q.name),(Zi q.af),(Zi q.ab),(Zi q.aC),(Zi q.aD),(Zi q.bad),q.ao] 26 false)
 have bk:Has h h1:=bZ
 cases jf:je l_ q l_.length 0 with
 | none=>
   obtain ⟨OH,h3,fi,lz⟩:=aU.n jf (rn (d:=d) (h:=h) dB l_ q h.nx eY eP.1 eP.2 eP l_.length 0 o! (fun k_=>(((AV.agg [(AV.str q.name),(Zi q.af),(Zi q.ab),(Zi q.aC),(Zi q.aD),(Zi q.bad),q.ao])::dB::(Pt h.nx)::AV.undef::(AV.bool false)::(Zi 0)::jl 31):List AV).getD k_ AV.undef) h1 bN bk aH)
   have eZ:=lz.y
   have qn:h1.nx≤h3.nx:=lz.n
   have fu:Has h h3:=bk.trans lz.a
   have e:fC q l_=true:=by simp only[fC,jf,aj,ai]
   rw[e]
   exact az rfl (a_ Try.func25 Ea rfl (.inr rfl) (pk (d+1) _ _ h _ h3 (NN bD (fun i=>(Pt i))<|CN 2<|LL fi<|CC<|ZZ) k!) k!) fu rfl
 | some K4=>
   obtain ⟨OH,h3,fi,lz⟩:=aU.r jf (rn (d:=d) (h:=h) dB l_ q h.nx eY eP.1 eP.2 eP l_.length 0 o! (fun k_=>(((AV.agg [(AV.str q.name),(Zi q.af),(Zi q.ab),(Zi q.aC),(Zi q.aD),(Zi q.bad),q.ao])::dB::(Pt h.nx)::AV.undef::(AV.bool false)::(Zi 0)::jl 31):List AV).getD k_ AV.undef) h1 bN bk aH)
   have eZ:=lz.y
   have qn:h1.nx≤h3.nx:=lz.n
   have fu:Has h h3:=bk.trans lz.a
   have e:fC q l_=K4:=by simp only[fC,jf,aj,ai]
   rw[e]
   exact az rfl (a_ Try.func25 Ea rfl (.inr rfl) (pk (d+1) _ _ h _ h3 (NN bD (fun i=>(Pt i))<|CN 2<|LL fi<|ZZ) k!) k!) fu rfl
def B2 (z w:AV):Prop:=∀k,bG z k∨bG w k
theorem bG.nil (k:Nat):bG .aK k:=fun _ _ _ _ e=>by cases e
theorem B2.nil (w:AV):B2 .aK w:=fun k=> .inl (bG.nil k)
theorem B2.symm {z w:AV} (a:B2 z w):B2 w z:=fun k=>(a k).symm
theorem bG.sl {p o n c k:Nat} {b:Bool} (h:p≠k):bG (.slice p o n c b) k:=fun o' n' c' b' e=>h (AV.slice.inj e).1
section
variable {e:TypeId} {g h h':aw} {z z' w:AV} {L M:List AV}
theorem dK.B3 (y:Tidy h) (o:dK e g h z L) {k:Nat} (hk:h.nx≤k):bG z k:=by
 rcases o with ⟨rfl,_⟩ | ⟨_,p,op,rfl,_,hg⟩
 · exact bG.nil k
 · have:=y _ _ hg
   exact bG.sl o!
theorem dK.aP (o:dK e g h z L) {k:Nat} (hk:k<g.nx):bG z k:=by
 rcases o with ⟨rfl,_⟩ | ⟨_,p,op,rfl,hp,hg⟩
 · exact bG.nil k
 · exact bG.sl o!
theorem dK.wb (o:dK e g h w L) (ap:B2 z w) (kp:∀i x,bG z i→h.get i=some x→h'.get i=some x):dK e g h' w L:=by
 rcases o with ⟨rfl,e0⟩ | ⟨hn,p,op,rfl,hp,hg⟩
 · exact .inl ⟨rfl,e0⟩
 · exact .inr ⟨hn,p,op,rfl,hp,kp _ _ ((ap p).resolve_right fun q=>q _ _ _ _ rfl) hg⟩
theorem dK.V2 {b:Nat} {C:aY} (o:dK e g h z L) (c:Chg h h' b C) (n:bG z b):dK e g h' z L:=by
 rcases o with ⟨rfl,e0⟩ | ⟨hn,p,op,rfl,hp,hg⟩
 · exact .inl ⟨rfl,e0⟩
 · exact .inr ⟨hn,p,op,rfl,hp,c.2.2 _ _ (fun q=>n 0 _ _ op (by subst q;rfl)) hg⟩
theorem dK.scalar (o:dK e g h z L):AV.scalar z=true:=by
 rcases o with ⟨rfl,_⟩ | ⟨_,p,op,rfl,_,_⟩<;>rfl
theorem dK.kept {b:Nat} (o:dK e g h z L) (c:Kept b h h') (n:bG z b):dK e g h' z L:=by
 rcases o with ⟨rfl,e0⟩ | ⟨hn,p,op,rfl,hp,hg⟩
 · exact .inl ⟨rfl,e0⟩
 · exact .inr ⟨hn,p,op,rfl,hp,c _ _ (fun q=>n 0 _ _ op (by subst q;rfl)) hg⟩
theorem dK.same {L':List AV} (o:dK e g h z L) (o':dK e g h' z L') (a:Has h h'):L'=L:=by
 rcases o with ⟨rfl,e0⟩ | ⟨hn,p,op,rfl,hp,hg⟩<;>rcases o' with ⟨e1,e2⟩ | ⟨Yg,p',op',e1,Yx,hg'⟩
 · rw[e0,e2]
 · cases e1
 · cases e1
 · have q:=(AV.slice.inj e1).1
   subst q
   have:=a _ _ hg
   rw[hg'] at this
   simpa using this
theorem dK.N' {s xt:TypeId} {xd:TypeDesc} {tys:Array TypeId} {bytes:Nat} {z0 x:AV} (y:Tidy h) (hle:g.nx≤h.nx) (o:dK e g h z L) (t0:tys[0]? =some s) (t1:tys[1]? =some xt) (hs:env.P.underlying s=some (.slice e)) (hx:env.P.underlying xt=some xd) (hi:mC xd=false) (Hh:cq env e=some 1) (hb:fT env e=some bytes) (sb:fE env e=some z0) (hz:z0.cells.length=1) (h8:bytes≤63) (hlen:nu x=some M.length) (hf:fq h 1 M.length x=some M) (qz:M.all AV.scalar=true) (hl:L.length+M.length≤1073741824):
 ∃z' h',b8 env h tys z x=some (z',h')∧Tidy h'∧h.nx≤h'.nx∧dK e g h' z' (L++M)∧(∀i w,bG z i→h.get i=some w→h'.get i=some w)∧(∀k,k<h.nx→bG z k→bG z' k):=by
 by_cases hm:M=[]
 · subst hm
   rcases o with ⟨rfl,rfl⟩ | ⟨hn,p,op,rfl,hp,hg⟩
   · refine ⟨.aK,h,?_,y,Nat.le_refl _,.inl ⟨rfl,rfl⟩,fun _ _ _ q=>q,fun _ _ q=>q⟩
     simp only[List.length_nil] at hlen hf
     simp only[b8,t0,t1,hs,hx,hi,Hh,hb,hlen,hf,sb,hz,qz,if_true,if_false,and_self,List.length_nil,Bool.false_eq_true,Nat.zero_mul]
   · have hg2:∀i,(h.put p (some (.cells L e false))).get i=h.get i:=fun i=>by
      by_cases q:i=p
      · subst q;rw[aw.bU,hg]
      · rw[aw.bx (Ne.symm q)]
     refine ⟨_,h.put p (some (.cells L e false)),?_,fun i x q=>y i x (by rw[←hg2];exact q),Nat.le_refl _,.inr ⟨by simpa using hn,p,op,by rw[List.append_nil],hp,by rw[hg2,List.append_nil];exact hg⟩,fun i w _ q=>by rw[hg2];exact q,fun _ _ q=>q⟩
     simp only[List.length_nil] at hlen hf
     simp only[b8,t0,t1,hs,hx,hi,Hh,hb,hlen,hf,sb,hz,qz,hg,if_true,if_false,and_self,List.length_nil,Bool.false_eq_true,Nat.zero_mul,Nat.add_zero,Nat.zero_add,Nat.le_refl,Nat.mul_one,setFrom]
 · rcases o with ⟨rfl,rfl⟩ | ⟨hn,p,op,rfl,hp,hg⟩
   · obtain ⟨h',e1,n⟩:=sW (h:=h) t0 t1 hs hx hi Hh hb sb hz h8 hlen hf qz hm (by simpa using hl)
     have:=lr n
     exact ⟨_,h',e1,fQ y n,by omega,.inr ⟨by simpa using hm,h.nx,true,by simp,hle,jc n⟩,fun i w _ q=>fG y n q,fun k hk _=>bG.sl o!⟩
   · obtain ⟨h',e1,y1,z1,k1,g1⟩:=sX (op:=op) y t0 t1 hs hx hi Hh hb sb hz h8 hlen hf qz rfl hm hl hg
     exact ⟨_,h',e1,y1,by omega,.inr ⟨by simp [hn],h.nx,true,by rw[List.length_append],hle,g1⟩,fun i w q=>k1 i w (fun e=>q 0 L.length L.length op (by subst e;rfl)),fun k hk _=>bG.sl o!⟩
end
section
variable {α:Type} [aA α] {h0 h h':aw} {z z' w:AV} {l m:List α}
theorem bu.abV {s xt:TypeId} {tys:Array TypeId} {bytes N:Nat} {z0 x:AV} (y:Tidy h) (y0:Tidy h0) (a:Has h0 h) (hle:h0.nx≤h.nx) (o:bu h0 h z l) (hlen:nu x=some m.length) (hf:fq h (aA.n α) m.length x=some (m.flatMap aA.c)) (qz:(m.flatMap aA.c).all AV.scalar=true) (hl:l.length+m.length≤N)
 (t0:tys[0]? =some s) (t1:tys[1]? =some xt) (hs:env.P.underlying s=some (.slice (aA.e α))) (hx:env.P.underlying xt=some (.slice (aA.e α))) (hb:fT env (aA.e α)=some bytes) (sb:fE env (aA.e α)=some z0) (hz:z0.cells.length=aA.n α) (Zc:∀k,k≤N→(4*k+4096)*(bytes+1)≤1099511627776):
 ∃z' h',b8 env h tys z x=some (z',h')∧Tidy h'∧h.nx≤h'.nx∧Has h0 h'∧bu h0 h' z' (l++m)∧(∀i w,bG z i→h.get i=some w→h'.get i=some w)∧(∀k,k<h.nx→bG z k→bG z' k):=by
 have BP:=cK aA.len m
 have hi:mC (.slice (aA.e α))=false:=rfl
 have w7:∀{p:Nat} {ob:aY},h.get p=some ob→Tidy (h.put p (some ob))∧Has h0 (h.put p (some ob))∧(∀i w,h.get i=some w→(h.put p (some ob)).get i=some w):=fun {p ob} g=>by
  have hg:∀i,(h.put p (some ob)).get i=h.get i:=fun i=>by
   by_cases e:i=p
   · subst e;rw[aw.bU,g]
   · rw[aw.bx (Ne.symm e)]
  exact ⟨fun i w q=>y i w (by rw[←hg];exact q),fun i w q=>by rw[hg];exact a i w q,fun i w q=>by rw[hg];exact q⟩
 have RI:m≠ []→∃h',h.new (.cells (m.flatMap aA.c) (aA.e α) false)=some h'∧Tidy h'∧h.nx≤h'.nx∧Has h0 h'∧bu h0 h' (.slice h.nx 0 m.length m.length true) m∧∀i w,h.get i=some w→h'.get i=some w:=fun hm=>by
  obtain ⟨h',n⟩:=lX (h:=h) (.cells (m.flatMap aA.c) (aA.e α) false)
  have:=lr n
  exact ⟨h',n,fQ y n,by omega,a.trans (wY y n),.inr ⟨hm,h.nx,true,rfl,hle,jc n⟩,fun i w g=>fG y n g⟩
 rcases o with ⟨rfl | ⟨p,rfl,hp,hg⟩,rfl⟩ | ⟨hn,p,op,rfl,hp,hg⟩
 · rw[List.nil_append]
   by_cases hm:m=[]
   · subst hm
     simp only[List.length_nil,List.flatMap_nil,Nat.zero_mul] at hlen hf qz BP
     refine ⟨.aK,h,?_,y,Nat.le_refl _,a,.inl ⟨.inl rfl,rfl⟩,fun _ _ _ g=>g,fun _ _ q=>q⟩
     simp only[b8,t0,t1,hs,hx,hi,aA.size,hb,hlen,hf,sb,hz,qz,BP,if_true,if_false,and_self,List.length_nil,Bool.false_eq_true,Nat.zero_mul]
   · obtain ⟨h',n,q1,q2,q3,q4,q5⟩:=RI hm
     have Pb:¬m.length=0:=fun e=>hm (List.length_eq_zero_iff.1 e)
     refine ⟨_,h',?_,q1,q2,q3,q4,fun i w _ g=>q5 i w g,fun k hk _=>bG.sl o!⟩
     simp only[b8,t0,t1,hs,hx,hi,aA.size,hb,hlen,hf,sb,hz,qz,BP,Pb,Zc m.length o!,n,if_true,if_false,and_self,Bool.false_eq_true]
 · rw[List.nil_append]
   by_cases hm:m=[]
   · subst hm
     simp only[List.length_nil,List.flatMap_nil,Nat.zero_mul] at hlen hf qz BP
     obtain ⟨q1,q2,q3⟩:=w7 hg
     refine ⟨_,_,?_,q1,Nat.le_refl _,q2,.inl ⟨.inr ⟨p,rfl,hp,q3 _ _ hg⟩,rfl⟩,fun i w _ g=>q3 i w g,fun _ _ q=>q⟩
     simp only[b8,t0,t1,hs,hx,hi,aA.size,hb,hlen,hf,sb,hz,qz,BP,hg,if_true,if_false,and_self,List.length_nil,Bool.false_eq_true,Nat.zero_mul,Nat.add_zero,Nat.le_refl,List.flatMap_nil,setFrom]
   · obtain ⟨h',n,q1,q2,q3,q4,q5⟩:=RI hm
     have Pb:¬m.length≤0:=fun e=>hm (List.length_eq_zero_iff.1 o!)
     refine ⟨_,h',?_,q1,q2,q3,q4,fun i w _ g=>q5 i w g,fun k hk _=>bG.sl o!⟩
     simp only[b8,t0,t1,hs,hx,hi,aA.size,hb,hlen,hf,sb,hz,qz,BP,hg,Pb,if_true,if_false,and_self,Bool.false_eq_true,Nat.zero_mul,Nat.add_zero,Nat.zero_add,List.length_nil,Nat.le_refl]
     rw[if_pos ⟨Zc m.length o!,trivial,fun e=>e.elim⟩]
     simp only[List.drop_nil,List.take_nil,List.nil_append,n]
 · have hlp:0<l.length:=List.length_pos_iff.2 hn
   have hpx:=y _ _ hg
   have Pj:=cK aA.len l
   by_cases hm:m=[]
   · subst hm
     simp only[List.length_nil,List.flatMap_nil,Nat.zero_mul] at hlen hf qz BP
     obtain ⟨q1,q2,q3⟩:=w7 hg
     rw[List.append_nil]
     refine ⟨_,_,?_,q1,Nat.le_refl _,q2,.inr ⟨hn,p,op,rfl,hp,q3 _ _ hg⟩,fun i w _ g=>q3 i w g,fun _ _ q=>q⟩
     simp only[b8,t0,t1,hs,hx,hi,aA.size,hb,hlen,hf,sb,hz,qz,BP,hg,Pj,if_true,if_false,and_self,List.length_nil,Bool.false_eq_true,Nat.zero_mul,Nat.add_zero,Nat.zero_add,Nat.le_refl,List.flatMap_nil,setFrom]
   · have hm0:0<m.length:=List.length_pos_iff.2 hm
     have y2:Tidy (if op then h.put p none else h):=by
      cases op with
      | false=>exact y
      | true=>
        intro i x g
        show i<h.nx
        by_cases hi:i=p
        · subst hi;exact hpx
        · rw[if_pos rfl,aw.bx (Ne.symm hi)] at g;exact y i x g
     have n2:(if op then h.put p none else h).nx=h.nx:=by cases op<;>rfl
     have k2:∀i w,i≠p→h.get i=some w→(if op then h.put p none else h).get i=some w:=fun i w hi g=>by
      cases op with
      | false=>exact g
      | true=>rw[if_pos rfl,aw.bx (Ne.symm hi)];exact g
     obtain ⟨h',n⟩:=lX (h:=if op then h.put p none else h) (.cells (l.flatMap aA.c++m.flatMap aA.c) (aA.e α) false)
     have hk:∀i w,i≠p→h.get i=some w→h'.get i=some w:=fun i w hi g=>fG y2 n (k2 i w hi g)
     have hc:¬l.length+m.length≤l.length:=by omega
     refine ⟨.slice h.nx 0 (l.length+m.length) (l.length+m.length) true,h',?_,fQ y2 n,by rw[lr n,n2];omega,fun i w g=>?_,.inr ⟨by simp [hn],h.nx,true,by rw[List.length_append],hle,by rw[List.flatMap_append,←n2];exact jc n⟩,fun i w q g=>hk i w (fun e=>q 0 l.length l.length op (by subst e;rfl)) g,fun k hk _=>bG.sl o!⟩
     · simp only[b8,t0,t1,hs,hx,hi,aA.size,hb,hlen,hf,sb,hz,qz,BP,hg,hc,if_true,if_false,and_self,Bool.false_eq_true]
       rw[if_pos ⟨Zc _ hl,by rw[Pj];omega,fun _=>⟨trivial,by rw[Pj];omega,trivial⟩⟩]
       rw[List.drop_zero,List.take_of_length_le (by rw[Pj];exact Nat.le_refl _),n]
     · have:=y0 _ _ g
       exact hk i w o! (a i w g)
theorem bu.Ag {s xt:TypeId} {tys:Array TypeId} {bytes:Nat} {z0 x:AV} (y:Tidy h) (y0:Tidy h0) (a:Has h0 h) (hle:h0.nx≤h.nx) (o:bu h0 h z l) (hlen:nu x=some m.length) (hf:fq h (aA.n α) m.length x=some (m.flatMap aA.c)) (qz:(m.flatMap aA.c).all AV.scalar=true) (hl:l.length+m.length≤1000000000)
 (t0:tys[0]? =some s) (t1:tys[1]? =some xt) (hs:env.P.underlying s=some (.slice (aA.e α))) (hx:env.P.underlying xt=some (.slice (aA.e α))) (hb:fT env (aA.e α)=some bytes) (sb:fE env (aA.e α)=some z0) (hz:z0.cells.length=aA.n α) (h8:bytes≤255):
 ∃z' h',b8 env h tys z x=some (z',h')∧Tidy h'∧h.nx≤h'.nx∧Has h0 h'∧bu h0 h' z' (l++m)∧(∀i w,bG z i→h.get i=some w→h'.get i=some w)∧(∀k,k<h.nx→bG z k→bG z' k):=
 bu.abV y y0 a hle o hlen hf qz hl t0 t1 hs hx hb sb hz fun k hk=>Nat.le_trans (Nat.mul_le_mul (show 4*k+4096≤4294967296 by omega) (show bytes+1≤256 by omega)) (by decide)
theorem bu.V2 {b:Nat} {C:aY} (o:bu h0 h z l) (c:Chg h h' b C) (n:bG z b):bu h0 h' z l:=by
 rcases o with ⟨rfl | ⟨p,rfl,h1,h2⟩,rfl⟩ | ⟨hn,p,op,rfl,hp,hg⟩
 · exact .inl ⟨.inl rfl,rfl⟩
 · exact .inl ⟨.inr ⟨p,rfl,h1,c.2.2 _ _ (fun q=>n 0 _ _ false (by subst q;rfl)) h2⟩,rfl⟩
 · exact .inr ⟨hn,p,op,rfl,hp,c.2.2 _ _ (fun q=>n 0 _ _ op (by subst q;rfl)) hg⟩
theorem bu.kept {b:Nat} (o:bu h0 h z l) (c:Kept b h h') (n:bG z b):bu h0 h' z l:=by
 rcases o with ⟨rfl | ⟨p,rfl,h1,h2⟩,rfl⟩ | ⟨hn,p,op,rfl,hp,hg⟩
 · exact .inl ⟨.inl rfl,rfl⟩
 · exact .inl ⟨.inr ⟨p,rfl,h1,c _ _ (fun q=>n 0 _ _ false (by subst q;rfl)) h2⟩,rfl⟩
 · exact .inr ⟨hn,p,op,rfl,hp,c _ _ (fun q=>n 0 _ _ op (by subst q;rfl)) hg⟩
theorem bu.Zo (o:bu h0 h z l) {k:Nat} (hk:k<h0.nx):bG z k:=by
 rcases o with ⟨rfl | ⟨p,rfl,h1,_⟩,rfl⟩ | ⟨_,p,op,rfl,hp,_⟩
 · exact fun _ _ _ _ e=>by cases e
 · exact fun _ _ _ _ e=>by have:=(AV.slice.inj e).1;omega
 · exact fun _ _ _ _ e=>by have:=(AV.slice.inj e).1;omega
theorem bG.slice {p o n c:Nat} {b:Bool} {i:Nat} (h:p≠i):bG (.slice p o n c b) i:=fun _ _ _ _ e=>h (AV.slice.inj e).1
theorem bu.B3 (y:Tidy h) (o:bu h0 h z l) {k:Nat} (hk:h.nx≤k):bG z k:=by
 rcases o with ⟨rfl | ⟨p,rfl,h1,h2⟩,rfl⟩ | ⟨_,p,op,rfl,_,hg⟩
 · exact bG.nil k
 · have:=y _ _ h2;exact bG.sl o!
 · have:=y _ _ hg;exact bG.sl o!
theorem bu.wb (o:bu h0 h w l) (ap:B2 z w) (kp:∀i x,bG z i→h.get i=some x→h'.get i=some x):bu h0 h' w l:=by
 rcases o with ⟨rfl | ⟨p,rfl,h1,h2⟩,rfl⟩ | ⟨hn,p,op,rfl,hp,hg⟩
 · exact .inl ⟨.inl rfl,rfl⟩
 · exact .inl ⟨.inr ⟨p,rfl,h1,kp _ _ ((ap p).resolve_right fun q=>q _ _ _ _ rfl) h2⟩,rfl⟩
 · exact .inr ⟨hn,p,op,rfl,hp,kp _ _ ((ap p).resolve_right fun q=>q _ _ _ _ rfl) hg⟩
end
section
variable {α:Type} [aA α] {h0 h h':aw} {z z' w:AV} {l m:List α}
theorem bu.s_ {n:Nat} (o:bu h0 h z l) (v:AV.within h0.nx (n+1) z=true):bu h0 h0 z l:=by
 rcases o with ⟨rfl | ⟨p,rfl,h1,h2⟩,rfl⟩ | ⟨hn,p,op,rfl,hp,hg⟩
 · exact .inl ⟨.inl rfl,rfl⟩
 · have:=of_decide_eq_true (show decide (p<h0.nx)=true from v);omega
 · have:=of_decide_eq_true (show decide (p<h0.nx)=true from v);omega
theorem kZ {nx k:Nat} {cs:List AV} (h:AV.within nx (k+1) (.tuple cs)=true) {x:AV} (hx:x∈cs):AV.within nx k x=true:=List.all_eq_true.1 h x hx
end
def cP {σ ζ:Type} (call:bj) (b:Code) (s:St) (ex:iC) (hh:aw) (tn:σ→ζ→(Nat→AV)→List AV) (Qn:σ→ζ→aw→Prop) (v:σ):Prop:=
 ∃z y hk,Ev env call (.loop b) s ex ⟨tn v z y,hk,[],.no⟩∧Tidy hk∧hh.nx≤hk.nx∧Qn v z hk
section
variable {σ ζ:Type} {call:bj} {b:Code} {s:St} {ex:iC} {hh hk:aw} {tn:σ→ζ→(Nat→AV)→List AV} {Qn:σ→ζ→aw→Prop}
theorem cP.out {i:Nat} {L:List AV} {o:σ} (v:σ) (z:ζ) (e:o=v) (ev:Ev env call b s (.exit i) ⟨L,hk,[],.no⟩) (y1:Tidy hk) (n1:hh.nx≤hk.nx) (q:Qn v z hk) (hl:L=tn v z fun k=>L.getD k AV.undef):cP call b s (.exit i) hh tn Qn o:=by
 subst e
 obtain ⟨y,x⟩:=yJ (tmpl:=tn o z) (Ev.out ev) hl
 exact ⟨z,y,hk,x,y1,n1,q⟩
theorem cP.round {L:List AV} {o o':σ} (e:o=o') (ev:Ev env call b s .normal ⟨L,hk,[],.no⟩) (n1:hh.nx≤hk.nx) (uQ:(Nat→AV)→List AV) (hl:L=uQ fun k=>L.getD k AV.undef) (ih:∀x,cP call b ⟨uQ x,hk,[],.no⟩ ex hk tn Qn o'):cP call b s ex hh tn Qn o:=by
 subst e
 have q:=ih fun k=>L.getD k AV.undef
 rw[←hl] at q
 obtain ⟨z,y,h2,x,y1,n2,g⟩:=q
 exact ⟨z,y,h2,Ev.loop ev x,y1,Nat.le_trans n1 n2,g⟩
end
def ta {σ ζ:Type} (call:bj) (b:Code) (s:St) (ex:iC) (hh:aw) (tn:σ→ζ→(Nat→AV)→List AV) (Qn:σ→ζ→aw→Prop) (tr:(Nat→AV)→List AV) (Rn:aw→Prop) (v:Option σ):Prop:=
 match v with
 | some v=>cP call b s ex hh tn Qn v
 | none=>∃y hk,Ev env call (.loop b) s .ret ⟨tr y,hk,[],.no⟩∧Tidy hk∧hh.nx≤hk.nx∧Rn hk
section
variable {σ ζ:Type} {call:bj} {b:Code} {s:St} {ex:iC} {hh hk:aw} {tn:σ→ζ→(Nat→AV)→List AV} {Qn:σ→ζ→aw→Prop} {tr:(Nat→AV)→List AV} {Rn:aw→Prop}
theorem ta.out {i:Nat} {L:List AV} {o:Option σ} (v:σ) (z:ζ) (e:o=some v) (ev:Ev env call b s (.exit i) ⟨L,hk,[],.no⟩) (y1:Tidy hk) (n1:hh.nx≤hk.nx) (q:Qn v z hk) (hl:L=tn v z fun k=>L.getD k AV.undef):ta call b s (.exit i) hh tn Qn tr Rn o:=by
 subst e;exact cP.out v z rfl ev y1 n1 q hl
theorem ta.ret {L:List AV} {o:Option σ} (e:o=none) (ev:Ev env call b s .ret ⟨L,hk,[],.no⟩) (y1:Tidy hk) (n1:hh.nx≤hk.nx) (q:Rn hk) (hl:L=tr fun k=>L.getD k AV.undef):ta call b s ex hh tn Qn tr Rn o:=by
 subst e
 obtain ⟨y,x⟩:=yJ (tmpl:=tr) (Ev.ret ev) hl
 exact ⟨y,hk,x,y1,n1,q⟩
theorem ta.round {L:List AV} {o o':Option σ} (e:o=o') (ev:Ev env call b s .normal ⟨L,hk,[],.no⟩) (n1:hh.nx≤hk.nx) (uQ:(Nat→AV)→List AV) (hl:L=uQ fun k=>L.getD k AV.undef) (ih:∀x,ta call b ⟨uQ x,hk,[],.no⟩ ex hk tn Qn tr Rn o'):ta call b s ex hh tn Qn tr Rn o:=by
 subst e
 have q:=ih fun k=>L.getD k AV.undef
 rw[←hl] at q
 cases o with
 | some v=>
   obtain ⟨z,y,h2,x,y1,n2,g⟩:=q
   exact ⟨z,y,h2,Ev.loop ev x,y1,Nat.le_trans n1 n2,g⟩
 | none=>
   obtain ⟨y,h2,x,y1,n2,g⟩:=q
   exact ⟨y,h2,Ev.loop ev x,y1,Nat.le_trans n1 n2,g⟩
end
theorem cP.R2 {σ ζ:Type} {call:bj} {b:Code} {s:St} {ex:iC} {hh:aw} {tn:σ→ζ→(Nat→AV)→List AV} {Qn Qn':σ→ζ→aw→Prop} {v:σ} (l:cP call b s ex hh tn Qn v) (w:∀z hk,hh.nx≤hk.nx→Qn v z hk→Qn' v z hk):cP call b s ex hh tn Qn' v:=by
 obtain ⟨z,y,hk,a,b1,c,q⟩:=l
 exact ⟨z,y,hk,a,b1,c,w z hk c q⟩
def tb (rc:RC) {σ ζ:Type} (call:bj) (b:Code) (s:St) (ex:iC) (hh:aw) (tn:σ→ζ→(Nat→AV)→List AV) (Qn:σ→ζ→aw→Prop) (v:σ):Prop:=
 ∃z y hk,Ev env call (.loop b) s ex ⟨tn v z y,hk,[],rc⟩∧Tidy hk∧hh.nx≤hk.nx∧Qn v z hk
section
variable {rc:RC} {σ ζ:Type} {call:bj} {b:Code} {s:St} {ex:iC} {hh hk:aw} {tn:σ→ζ→(Nat→AV)→List AV} {Qn:σ→ζ→aw→Prop}
theorem tb.out {i:Nat} {L:List AV} {o:σ} (v:σ) (z:ζ) (e:o=v) (ev:Ev env call b s (.exit i) ⟨L,hk,[],rc⟩) (y1:Tidy hk) (n1:hh.nx≤hk.nx) (q:Qn v z hk) (hl:L=tn v z fun k=>L.getD k AV.undef):tb rc call b s (.exit i) hh tn Qn o:=by
 subst e
 refine ⟨z,fun k=>L.getD k AV.undef,hk,?_,y1,n1,q⟩
 rw[←hl];exact Ev.out ev
theorem tb.round {L:List AV} {o o':σ} (e:o=o') (ev:Ev env call b s .normal ⟨L,hk,[],rc⟩) (n1:hh.nx≤hk.nx) (uQ:(Nat→AV)→List AV) (hl:L=uQ fun k=>L.getD k AV.undef) (ih:∀x,tb rc call b ⟨uQ x,hk,[],rc⟩ ex hk tn Qn o'):tb rc call b s ex hh tn Qn o:=by
 subst e
 have q:=ih fun k=>L.getD k AV.undef
 rw[←hl] at q
 obtain ⟨z,y,h2,x,y1,n2,g⟩:=q
 exact ⟨z,y,h2,Ev.loop ev x,y1,Nat.le_trans n1 n2,g⟩
end
theorem V3 (rc:RC) (d:Nat) (c:Code) (ts:List AV) (h:aw) (e:iC) (h':aw) {al:List mZ} {ps:List Prop} (k:Pk al [] ps) (hr:run env (cJ d) 300 c ⟨ts,h,[],rc⟩ al []= .at e ⟨uP (run env (cJ d) 300 c ⟨ts,h,[],rc⟩ al []),h',[],rc⟩ [] ps):Ev env (cJ d) c ⟨ts,h,[],rc⟩ e ⟨uP (run env (cJ d) 300 c ⟨ts,h,[],rc⟩ al []),h',[],rc⟩:=pk_ d c ts h [] rc e h' k hr
def Ec:Code:=(Try.f38.body).getD .skip
theorem Zp:Try.f38.body=some Ec:=by kernel_rfl
def R3:Code:=(ck Ec).getD 0 .skip
def gP (q:ay) (l_:List cu) (t:Int):Nat→Nat→Int→Int→Int×Int
 | 0,_,dD,dE=>(dD,dE)
 | dS+1,i0,dD,dE=>gP q l_ t dS (i0+1) (kD (⟨dD,dE⟩:Span) (cR q (l_.g i0) t)).aP (kD (⟨dD,dE⟩:Span) (cR q (l_.g i0) t)).aF
theorem Ed {d:Nat} {h:aw} (dB:AV) (t:Int) (l_:List cu) (q:ay) (cC:Nat) (fD:Nat) (Gc:Nat) (bI:aQ h dB l_) (eO:q.name.length<2^60) (kP:aQ h q.ao q.ar) (ma:aA.ok h q) (rh:0<l_.length) (bH:Tidy h) (rX:h.nx≤cC) (V4:h.nx≤fD) (aeR:h.nx≤Gc) (K6:fD≠cC) (Zq:Gc≠cC) (Zr:Gc≠fD):∀(k_ i_:Nat) (dD:Int) (dE:Int) (_:i_+k_=l_.length) (x:Nat→AV) (hh:aw) (aL:Tidy hh) (aX:Has h hh) (gI:h.nx≤hh.nx) (bJ:hh.get cC=some (aY.cells [(AV.str q.name),(Zi q.af),(Zi q.ab),(Zi q.aC),(Zi q.aD),(Zi q.bad),q.ao] 26 false)) (me:hh.get fD=some (aY.cells [(Zi 0),(Zi 0)] 23 false)) (Ge:hh.get Gc=some (aY.cells [(Zi dD),(Zi dE)] 23 false)),cP (σ:=Int×Int) (ζ:=Unit) (cJ (d+1)) R3 ⟨((x 0)::dB::(Zi t)::(Pt cC)::(x 4)::(x 5)::(Pt fD)::(Pt Gc)::(Zn i_)::rx x 9 22 []),hh,[],.no⟩ (.exit 0) hh (fun r z y=>((y 0)::dB::(Zi t)::(Pt cC)::(y 4)::(y 5)::(Pt fD)::(Pt Gc)::rx y 8 23 [])) (fun r z hk=>Has h hk∧hk.get cC=some (aY.cells [(AV.str q.name),(Zi q.af),(Zi q.ab),(Zi q.aC),(Zi q.aD),(Zi q.bad),q.ao] 26 false)∧hk.get fD=some (aY.cells [(Zi 0),(Zi 0)] 23 false)∧hk.get Gc=some (aY.cells [(Zi r.1),(Zi r.2)] 23 false)) (gP q l_ t k_ i_ dD dE)
 | 0,i0,dD,dE,jZ,x,hh,aL,aX,gI,bJ,me,Ge=>by
   have fN:=bI.small
   have rj:=kP.small
   have pP:=aL _ _ bJ
   have Zs:=aL _ _ me
   have aeS:=aL _ _ Ge
   have ie:dw (some (.slice 88)) (some dB)=some (Zn l_.length):=bI.len
   have q2:(decide (((i0:Nat):Int)<((l_.length:Nat):Int)))=false:=d!
   exact cP.out (dD,dE) () rfl (pk (d+1) _ _ hh _ hh (CN 2<|VV ie<|VV (bz 3 false false .i64 ((i0:Nat):Int) ((l_.length:Nat):Int))<|BB q2<|ZZ) k!) aL o! ⟨aX,bJ,me,Ge⟩ k!
 | dS+1,i0,dD,dE,jZ,x,hh,aL,aX,gI,bJ,me,Ge=>by
   have fN:=bI.small
   have rj:=kP.small
   have pP:=aL _ _ bJ
   have Zs:=aL _ _ me
   have aeS:=aL _ _ Ge
   have ie:dw (some (.slice 88)) (some dB)=some (Zn l_.length):=bI.len
   have q2:(decide (((i0:Nat):Int)<((l_.length:Nat):Int)))=true:=d!
   obtain ⟨p4,q5,mH⟩:=bI.elem (i:=i0) o!
   have py:di env (some (.slice 88)) (some dB) (some (Zn i0))=some (AV.ptr p4 q5):=mH
   have pz:bA env hh 88 (AV.ptr p4 q5)=some (AV.agg [(Zi (l_.g i0).time),(Zi (l_.g i0).aq),(Zi (l_.g i0).ak)]):=(bI.has aX).load o! mH
   have k7:=BZ (d:=d) q (l_.g i0) t (aA.mono aX ma) trivial aL
   have k8:=I6 (d:=d) (⟨dD,dE⟩:Span) (cR q (l_.g i0) t) trivial trivial aL
   obtain ⟨h9,Zt,uw,abW,R4,B4⟩:=pM (t:=23) (n:=2) (i:=Gc) (L:=[(Zi (kD (⟨dD,dE⟩:Span) (cR q (l_.g i0) t)).aP),(Zi (kD (⟨dD,dE⟩:Span) (cR q (l_.g i0) t)).aF)]) aL Ge k! rfl rfl (by simp only[AV.cells,List.all_cons,List.all_nil,Bool.and_true,Bool.and_self,eI,dt,eJ,eK,cI,gU,gV,gW,gX,gY,eL])
   have s6:Has h h9:=Has.cm aX B4 bH o!
   have vG:AV.same 20 (AV.agg [(Zi dD),(Zi dE)]) (AV.agg [(Zi dD),(Zi dE)])=true:=dx 18 (hD (fun n=>aG n _ _) (hD (fun n=>aG n _ _) AF))
   have Xy:AV.same 20 (AV.agg [(AV.str q.name),(Zi q.af),(Zi q.ab),(Zi q.aC),(Zi q.aD),(Zi q.bad),q.ao]) (AV.agg [(AV.str q.name),(Zi q.af),(Zi q.ab),(Zi q.aC),(Zi q.aD),(Zi q.bad),q.ao])=true:=dx 18 (hD (fun n=>iJ n _) (hD (fun n=>aG n _ _) (hD (fun n=>aG n _ _) (hD (fun n=>aG n _ _) (hD (fun n=>aG n _ _) (hD (fun n=>aG n _ _) (hD kP.same AF)))))))
   have IW:AV.same 20 (AV.agg [(Zi (l_.g i0).time),(Zi (l_.g i0).aq),(Zi (l_.g i0).ak)]) (AV.agg [(Zi (l_.g i0).time),(Zi (l_.g i0).aq),(Zi (l_.g i0).ak)])=true:=dx 18 (hD (fun n=>aG n _ _) (hD (fun n=>aG n _ _) (hD (fun n=>aG n _ _) AF)))
   have V5:=eR 3 false true i0 1 o!
   exact cP.round (by simp only[gP,aj,ai]) (pk (d+1) _ _ hh _ h9 (CN 2<|VV ie<|VV (bz 3 false false .i64 ((i0:Nat):Int) ((l_.length:Nat):Int))<|BM q2 (aB 23 0 (AV.agg [(Zi dD),(Zi dE)]) Ge k!)<|MM (aB 26 0 (AV.agg [(AV.str q.name),(Zi q.af),(Zi q.ab),(Zi q.aC),(Zi q.aD),(Zi q.bad),q.ao]) bJ k!)<|CN 2<|VV py<|MM pz<|CC<|EE k7<|EE k8<|SS Zt<|HH (aB 23 0 (AV.agg [(Zi dD),(Zi dE)]) Ge k!)<|HH vG<|HH (aB 23 0 (AV.agg [(Zi dD),(Zi dE)]) Ge k!)<|HH vG<|HH (aB 26 0 (AV.agg [(AV.str q.name),(Zi q.af),(Zi q.ab),(Zi q.aC),(Zi q.aD),(Zi q.bad),q.ao]) bJ k!)<|HH Xy<|HH pz<|HH IW<|CC<|VV V5<|CC<|ZZ) k!) o! _ k! (fun x=>Ed dB t l_ q cC fD Gc bI eO kP ma rh bH rX V4 aeR K6 Zq Zr dS (i0+1) (kD (⟨dD,dE⟩:Span) (cR q (l_.g i0) t)).aP (kD (⟨dD,dE⟩:Span) (cR q (l_.g i0) t)).aF o! x h9 uw s6 o! (B4 _ _ o! bJ) (B4 _ _ o! me) R4)
def oS (q:ay) (l_:List cu) (t:Int):Span:=(⟨(gP q l_ t (l_.length - 1) 1 (cR q (l_.g 0) t).aP (cR q (l_.g 0) t).aF).1,(gP q l_ t (l_.length - 1) 1 (cR q (l_.g 0) t).aP (cR q (l_.g 0) t).aF).2⟩:Span)
theorem Zu {d:Nat} {h:aw} {dB:AV} (q:ay) (l_:List cu) (t:Int) (eP:aA.ok h q) (eY:aQ h dB l_) (jP:0<l_.length) (bH:Tidy h):cJ (d+2) (.fn 38) [(AV.agg [(AV.str q.name),(Zi q.af),(Zi q.ab),(Zi q.aC),(Zi q.aD),(Zi q.bad),q.ao]),dB,(Zi t)] h= .ret (AV.agg [(Zi (oS q l_ t).aP),(Zi (oS q l_ t).aF)]) h:=by
 have oP:=eY.small
 have fW:=eP.2.small
 obtain ⟨h1,bD,bN,fX,aH,bZ⟩:=gu bH (aY.cells [(AV.str q.name),(Zi q.af),(Zi q.ab),(Zi q.aC),(Zi q.aD),(Zi q.bad),q.ao] 26 false)
 have bk:Has h h1:=bZ
 obtain ⟨h2,iQ,fJ,uA,dh,dz⟩:=gu bN (aY.cells [(Zi 0),(Zi 0)] 23 false)
 have fl:Has h h2:=bk.trans dz
 obtain ⟨p4,q5,mH⟩:=eY.elem (i:=0) o!
 have py:di env (some (.slice 88)) (some dB) (some (Zi 0))=some (AV.ptr p4 q5):=mH
 have pz:bA env h2 88 (AV.ptr p4 q5)=some (AV.agg [(Zi (l_.g 0).time),(Zi (l_.g 0).aq),(Zi (l_.g 0).ak)]):=(eY.has fl).load o! mH
 obtain ⟨h7,aeT,iR,Dd,kf,V6⟩:=gu fJ (aY.cells [(Zi 0),(Zi 0)] 23 false)
 have hI:Has h h7:=fl.trans V6
 have k8:=BZ (d:=d) q (l_.g 0) t (aA.mono hI eP) trivial iR
 obtain ⟨h9,Zt,uw,abW,R4,B4⟩:=pM (t:=23) (n:=2) (i:=h2.nx) (L:=[(Zi (cR q (l_.g 0) t).aP),(Zi (cR q (l_.g 0) t).aF)]) iR kf k! rfl rfl (by simp only[AV.cells,List.all_cons,List.all_nil,Bool.and_true,Bool.and_self,eI,dt,eJ,eK,cI,gU,gV,gW,gX,gY,eL])
 have s6:Has h h9:=Has.cm hI B4 bH o!
 have vG:AV.same 20 (AV.agg [(AV.str q.name),(Zi q.af),(Zi q.ab),(Zi q.aC),(Zi q.aD),(Zi q.bad),q.ao]) (AV.agg [(AV.str q.name),(Zi q.af),(Zi q.ab),(Zi q.aC),(Zi q.aD),(Zi q.bad),q.ao])=true:=dx 18 (hD (fun n=>iJ n _) (hD (fun n=>aG n _ _) (hD (fun n=>aG n _ _) (hD (fun n=>aG n _ _) (hD (fun n=>aG n _ _) (hD (fun n=>aG n _ _) (hD eP.2.same AF)))))))
 have Xy:AV.same 20 (AV.agg [(Zi (l_.g 0).time),(Zi (l_.g 0).aq),(Zi (l_.g 0).ak)]) (AV.agg [(Zi (l_.g 0).time),(Zi (l_.g 0).aq),(Zi (l_.g 0).ak)])=true:=dx 18 (hD (fun n=>aG n _ _) (hD (fun n=>aG n _ _) (hD (fun n=>aG n _ _) AF)))
 obtain ⟨_,aeU,uT,Gg,tc,I_,Zv,adX,V7,V8⟩:=Ed (d:=d) (h:=h) dB t l_ q h.nx h1.nx h2.nx eY eP.1 eP.2 eP o! bH o! o! o! o! o! o! (l_.length - 1) 1 (cR q (l_.g 0) t).aP (cR q (l_.g 0) t).aF o! (fun k_=>(((AV.agg [(AV.str q.name),(Zi q.af),(Zi q.ab),(Zi q.aC),(Zi q.aD),(Zi q.bad),q.ao])::dB::(Zi t)::(Pt h.nx)::AV.undef::AV.undef::(Pt h1.nx)::(Pt h2.nx)::(Zi 1)::(AV.agg [(AV.str q.name),(Zi q.af),(Zi q.ab),(Zi q.aC),(Zi q.aD),(Zi q.bad),q.ao])::dB::(AV.ptr p4 q5)::(AV.agg [(Zi (l_.g 0).time),(Zi (l_.g 0).aq),(Zi (l_.g 0).ak)])::(Zi t)::(AV.agg [(Zi (cR q (l_.g 0) t).aP),(Zi (cR q (l_.g 0) t).aF)])::jl 16):List AV).getD k_ AV.undef) h9 uw s6 o! (B4 _ _ o! (V6 _ _ (dz _ _ aH))) (B4 _ _ o! (V6 _ _ dh)) R4
 have oT:Has h uT:=Zv
 obtain ⟨I',abX,xj,abY,R5,Zw⟩:=pM (t:=23) (n:=2) (i:=h1.nx) (L:=[(Zi (gP q l_ t (l_.length - 1) 1 (cR q (l_.g 0) t).aP (cR q (l_.g 0) t).aF).1),(Zi (gP q l_ t (l_.length - 1) 1 (cR q (l_.g 0) t).aP (cR q (l_.g 0) t).aF).2)]) tc V7 k! rfl rfl (by simp only[AV.cells,List.all_cons,List.all_nil,Bool.and_true,Bool.and_self,eI,dt,eJ,eK,cI,gU,gV,gW,gX,gY,eL])
 have Ja:Has h I':=Has.cm oT Zw bH o!
 have e:oS q l_ t=(⟨(gP q l_ t (l_.length - 1) 1 (cR q (l_.g 0) t).aP (cR q (l_.g 0) t).aF).1,(gP q l_ t (l_.length - 1) 1 (cR q (l_.g 0) t).aP (cR q (l_.g 0) t).aF).2⟩:Span):=by simp only[oS,aj,ai]
 rw[e]
 exact az rfl (h_ (a:=6) (t:=23) (i:=h1.nx) Try.func38 Zp rfl (.inr rfl) (pk (d+1) _ _ h _ I' (NN bD (fun i=>(Pt i))<|NN iQ (fun i=>(Pt i))<|MM (aB 26 0 (AV.agg [(AV.str q.name),(Zi q.af),(Zi q.ab),(Zi q.aC),(Zi q.aD),(Zi q.bad),q.ao]) (dz _ _ aH) k!)<|CC<|VV py<|MM pz<|CC<|NN aeT (fun i=>(Pt i))<|EE k8<|SS Zt<|HH (aB 26 0 (AV.agg [(AV.str q.name),(Zi q.af),(Zi q.ab),(Zi q.aC),(Zi q.aD),(Zi q.bad),q.ao]) (V6 _ _ (dz _ _ aH)) k!)<|HH vG<|HH (show bA env h7 88 (AV.ptr p4 q5)=some (AV.agg [(Zi (l_.g 0).time),(Zi (l_.g 0).aq),(Zi (l_.g 0).ak)]) from ((eY.has hI).load o! mH))<|HH Xy<|HH (show ∃o,h7.get h2.nx=some o∧aY.same o (aY.cells [(Zi 0),(Zi 0)] 23 false)=true from ⟨_,kf,by simp [aY.same,dQ,AV.same]⟩)<|HH (show ∃o,h7.get h2.nx=some o∧aY.same o (aY.cells [(Zi 0),(Zi 0)] 23 false)=true from ⟨_,kf,by simp [aY.same,dQ,AV.same]⟩)<|CC<|LL Gg<|MM (aB 23 0 (AV.agg [(Zi (gP q l_ t (l_.length - 1) 1 (cR q (l_.g 0) t).aP (cR q (l_.g 0) t).aF).1),(Zi (gP q l_ t (l_.length - 1) 1 (cR q (l_.g 0) t).aP (cR q (l_.g 0) t).aF).2)]) V8 k!)<|SS abX<|ZZ) k!) k! (kL R5 k!)) Ja rfl
def uU:Code:=(Try.f37.body).getD .skip
theorem B5:Try.f37.body=some uU:=by kernel_rfl
def Gh:Code:=(ck uU).getD 0 .skip
def aZ (l_:List Span):Nat→Nat→List Span→Bool→Int→Int→List Span×Bool×Int×Int
 | 0,_,ib,uC,bB,bF=>(ib,uC,bB,bF)
 | dS+1,i0,ib,uC,bB,bF=>(bif (decide ((IntKind.i64.wrap (((l_.g i0).aF)+1))<bB)) then aZ l_ dS (i0+1) (ib++[(l_.g i0)]) uC bB bF else (bif (decide ((IntKind.i64.wrap (bF+1))<((l_.g i0).aP))) then (bif (!uC) then aZ l_ dS (i0+1) ((ib++[(⟨bB,bF⟩:Span)])++[(l_.g i0)]) true bB bF else aZ l_ dS (i0+1) (ib++[(l_.g i0)]) uC bB bF) else aZ l_ dS (i0+1) ib uC (yK bB (l_.g i0).aP) (imax bF (l_.g i0).aF)))
theorem kR {d:Nat} {h:aw} (dB:AV) (l_:List Span) (cC:Nat) (bI:aQ h dB l_) (rh:l_.length≤1000) (bH:Tidy h) (rX:h.nx≤cC):∀(k_ i_:Nat) (ib:List Span) (uC:Bool) (bB:Int) (bF:Int) (B6:AV) (_:i_+k_=l_.length) (x:Nat→AV) (hh:aw) (aL:Tidy hh) (aX:Has h hh) (gI:h.nx≤hh.nx) (bJ:hh.get cC=some (aY.cells [(Zi bB),(Zi bF)] 23 false)) (B7:bu h hh B6 ib) (vJ:∀y∈ib,aA.ok hh y) (Xz:ib.length≤2*i_+0) (dO:bG B6 cC),cP (σ:=List Span×Bool×Int×Int) (ζ:=AV) (cJ (d)) Gh ⟨(dB::(x 1)::(x 2)::(Pt cC)::(x 4)::B6::(AV.bool uC)::(Zn i_)::rx x 8 70 []),hh,[],.no⟩ (.exit 0) hh (fun r z y=>(dB::(y 1)::(y 2)::(Pt cC)::(y 4)::z::(AV.bool r.2.1)::rx y 7 71 [])) (fun r z hk=>Has h hk∧hk.get cC=some (aY.cells [(Zi r.2.2.1),(Zi r.2.2.2)] 23 false)∧bu h hk z r.1∧(∀y∈r.1,aA.ok hk y)∧r.1.length≤2*l_.length+0∧bG z cC) (aZ l_ k_ i_ ib uC bB bF)
 | 0,i0,ib,uC,bB,bF,B6,jZ,x,hh,aL,aX,gI,bJ,B7,vJ,Xz,dO=>by
   have fN:=bI.small
   have pP:=aL _ _ bJ
   have ie:dw (some (.slice 23)) (some dB)=some (Zn l_.length):=bI.len
   have q2:(decide (((i0:Nat):Int)<((l_.length:Nat):Int)))=false:=d!
   exact cP.out (ib,uC,bB,bF) B6 rfl (pk (d) _ _ hh _ hh (CN 2<|VV ie<|VV (bz 3 false false .i64 ((i0:Nat):Int) ((l_.length:Nat):Int))<|BB q2<|ZZ) k!) aL o! ⟨aX,bJ,B7,vJ,(by first | omega | (simp<;>omega)),dO⟩ k!
 | dS+1,i0,ib,uC,bB,bF,B6,jZ,x,hh,aL,aX,gI,bJ,B7,vJ,Xz,dO=>by
   have fN:=bI.small
   have pP:=aL _ _ bJ
   have ie:dw (some (.slice 23)) (some dB)=some (Zn l_.length):=bI.len
   have q2:(decide (((i0:Nat):Int)<((l_.length:Nat):Int)))=true:=d!
   obtain ⟨p4,q5,mH⟩:=bI.elem (i:=i0) o!
   have py:di env (some (.slice 23)) (some dB) (some (Zn i0))=some (AV.ptr p4 q5):=mH
   have pz:bA env hh 3 (AV.ptr p4 (q5+1))=some (Zi (l_.g i0).aF):=(bI.has aX).part (t:=3) (j:=1) o! mH k! rfl
   rcases Bool.eq_false_or_eq_true (decide ((IntKind.i64.wrap (((l_.g i0).aF)+1))<bB)) with f1 | f1
   · have iK:=of_decide_eq_true f1
     obtain ⟨p9,rJ,R6⟩:=bI.elem (i:=i0) o!
     have MX:di env (some (.slice 23)) (some dB) (some (Zn i0))=some (AV.ptr p9 rJ):=R6
     have Jb:bA env hh 23 (AV.ptr p9 rJ)=some (AV.agg [(Zi (l_.g i0).aP),(Zi (l_.g i0).aF)]):=(bI.has aX).load o! R6
     obtain ⟨Uo,abZ,MY,agv,ab0,MZ⟩:=gu aL (aY.cells [(Zi (l_.g i0).aP),(Zi (l_.g i0).aF)] 23 false)
     have R7:Has h Uo:=aX.trans MZ
     have R8:Has hh Uo:=MZ
     obtain ⟨z14,uT,Zx,tc,I_,ab1,aeV,Zy,Zz⟩:=bu.Ag (tys:= #[30,30]) (l:=ib) (m:=[(l_.g i0)]) (x:=(AV.slice hh.nx 0 1 1 false)) MY bH R7 o! (bu.has B7 R8) rfl (im (x:=(l_.g i0)) ab0) (by simp [aA.c,Span.c,AV.scalar]) (by first | omega | (simp<;>omega)) rfl rfl k! k! (bytes:=16) k! (z0:=(AV.agg [(Zi 0),(Zi 0)])) k! rfl (by decide)
     have oT:Has h uT:=ab1
     have ZA:∀y∈(ib++[(l_.g i0)]),aA.ok uT y:=dG (D:=Span) (nC (dG (D:=Span) (h':=Uo) vJ) (ok_one trivial))
     have u16:=eR 3 false true i0 1 o!
     exact cP.round (by simp only[aZ,f1,aj,ai]) (pk (d) _ _ hh _ uT (CN 2<|VV ie<|VV (bz 3 false false .i64 ((i0:Nat):Int) ((l_.length:Nat):Int))<|BB q2<|CN 2<|VV py<|CC<|MM pz<|CN 2<|MM (aB 3 0 (Zi bB) bJ k!)<|VV (bz 3 false false .i64 (IntKind.i64.wrap (((l_.g i0).aF)+1)) bB)<|CC<|HH pz<|HH (show AV.same 20 (Zi (l_.g i0).aF) (Zi (l_.g i0).aF)=true from aG 19 _ _)<|HH (aB 3 0 (Zi bB) bJ k!)<|HH (show AV.same 20 (Zi bB) (Zi bB)=true from aG 19 _ _)<|BB f1<|CN 3<|VV MX<|MM Jb<|NN abZ (fun i=>(AV.slice i 0 1 1 false))<|PP (show b8 env Uo #[30,30] B6 (AV.slice hh.nx 0 1 1 false)=some (z14,uT) from Zx)<|CN 2<|VV u16<|CC<|ZZ) k!) o! _ k! (fun x=>kR dB l_ cC bI rh bH rX dS (i0+1) (ib++[(l_.g i0)]) uC bB bF z14 o! x uT tc oT o! (Zy _ _ dO (MZ _ _ bJ)) aeV ZA (by first | omega | (simp<;>omega)) (Zz _ (MY _ _ (MZ _ _ bJ)) dO))
   · have iK:=of_decide_eq_false f1
     obtain ⟨p9,rJ,R6⟩:=bI.elem (i:=i0) o!
     have MX:di env (some (.slice 23)) (some dB) (some (Zn i0))=some (AV.ptr p9 rJ):=R6
     have Jb:bA env hh 3 (AV.ptr p9 (rJ+0))=some (Zi (l_.g i0).aP):=(bI.has aX).part (t:=3) (j:=0) o! R6 k! rfl
     rcases Bool.eq_false_or_eq_true (decide ((IntKind.i64.wrap (bF+1))<((l_.g i0).aP))) with f2 | f2
     · have pO:=of_decide_eq_true f2
       rcases Bool.eq_false_or_eq_true (!uC) with f3 | f3
       · obtain ⟨I',ab2,xj,abY,R5,Ee⟩:=gu aL (aY.cells [(Zi bB),(Zi bF)] 23 false)
         have Ja:Has h I':=aX.trans Ee
         have Jc:Has hh I':=Ee
         obtain ⟨z16,ZB,ZC,ab3,agw,ab4,aeW,R9,R_⟩:=bu.Ag (tys:= #[30,30]) (l:=ib) (m:=[(⟨bB,bF⟩:Span)]) (x:=(AV.slice hh.nx 0 1 1 false)) xj bH Ja o! (bu.has B7 Jc) rfl (im (x:=(⟨bB,bF⟩:Span)) R5) (by simp [aA.c,Span.c,AV.scalar]) (by first | omega | (simp<;>omega)) rfl rfl k! k! (bytes:=16) k! (z0:=(AV.agg [(Zi 0),(Zi 0)])) k! rfl (by decide)
         have XA:Has h ZB:=ab4
         have ZD:∀y∈(ib++[(⟨bB,bF⟩:Span)]),aA.ok ZB y:=dG (D:=Span) (nC (dG (D:=Span) (h':=I') vJ) (ok_one trivial))
         obtain ⟨p19,q20,XB⟩:=bI.elem (i:=i0) o!
         have aeX:di env (some (.slice 23)) (some dB) (some (Zn i0))=some (AV.ptr p19 q20):=XB
         have aeY:bA env ZB 23 (AV.ptr p19 q20)=some (AV.agg [(Zi (l_.g i0).aP),(Zi (l_.g i0).aF)]):=(bI.has XA).load o! XB
         obtain ⟨h22,ab5,XC,agx,ab6,M1⟩:=gu ab3 (aY.cells [(Zi (l_.g i0).aP),(Zi (l_.g i0).aF)] 23 false)
         have ab7:Has h h22:=XA.trans M1
         have OI:Has ZB h22:=M1
         obtain ⟨z24,R',ZE,Sa,agy,Sb,aeZ,Sc,ZF⟩:=bu.Ag (tys:= #[30,30]) (l:=(ib++[(⟨bB,bF⟩:Span)])) (m:=[(l_.g i0)]) (x:=(AV.slice ZB.nx 0 1 1 false)) XC bH ab7 o! (bu.has aeW OI) rfl (im (x:=(l_.g i0)) ab6) (by simp [aA.c,Span.c,AV.scalar]) (by first | omega | (simp<;>omega)) rfl rfl k! k! (bytes:=16) k! (z0:=(AV.agg [(Zi 0),(Zi 0)])) k! rfl (by decide)
         have Sd:Has h R':=Sb
         have ZG:∀y∈((ib++[(⟨bB,bF⟩:Span)])++[(l_.g i0)]),aA.ok R' y:=dG (D:=Span) (nC (dG (D:=Span) (h':=h22) ZD) (ok_one trivial))
         have u26:=eR 3 false true i0 1 o!
         exact cP.round (by simp only[aZ,f1,f2,f3,aj,ai]) (pk (d) _ _ hh _ R' (CN 2<|VV ie<|VV (bz 3 false false .i64 ((i0:Nat):Int) ((l_.length:Nat):Int))<|BB q2<|CN 2<|VV py<|CC<|MM pz<|CN 2<|MM (aB 3 0 (Zi bB) bJ k!)<|VV (bz 3 false false .i64 (IntKind.i64.wrap (((l_.g i0).aF)+1)) bB)<|CC<|HH pz<|HH (show AV.same 20 (Zi (l_.g i0).aF) (Zi (l_.g i0).aF)=true from aG 19 _ _)<|HH (aB 3 0 (Zi bB) bJ k!)<|HH (show AV.same 20 (Zi bB) (Zi bB)=true from aG 19 _ _)<|BC f1<|MM (aB 3 1 (Zi bF) bJ k!)<|CN 3<|VV MX<|CC<|MM Jb<|VV (bz 3 false false .i64 (IntKind.i64.wrap (bF+1)) (l_.g i0).aP)<|CC<|HH (aB 3 1 (Zi bF) bJ k!)<|HH (show AV.same 20 (Zi bF) (Zi bF)=true from aG 19 _ _)<|HH Jb<|HH (show AV.same 20 (Zi (l_.g i0).aP) (Zi (l_.g i0).aP)=true from aG 19 _ _)<|BB f2<|CN 2<|BC f3<|MM (aB 23 0 (AV.agg [(Zi bB),(Zi bF)]) bJ k!)<|NN ab2 (fun i=>(AV.slice i 0 1 1 false))<|PP (show b8 env I' #[30,30] B6 (AV.slice hh.nx 0 1 1 false)=some (z16,ZB) from ZC)<|CN 5<|VV aeX<|MM aeY<|NN ab5 (fun i=>(AV.slice i 0 1 1 false))<|PP (show b8 env h22 #[30,30] z16 (AV.slice ZB.nx 0 1 1 false)=some (z24,R') from ZE)<|CN 2<|VV u26<|CC<|ZZ) k!) o! _ k! (fun x=>kR dB l_ cC bI rh bH rX dS (i0+1) ((ib++[(⟨bB,bF⟩:Span)])++[(l_.g i0)]) true bB bF z24 o! x R' Sa Sd o! (Sc _ _ (R_ _ (xj _ _ (Ee _ _ bJ)) dO) (M1 _ _ (R9 _ _ dO (Ee _ _ bJ)))) aeZ ZG (by first | omega | (simp<;>omega)) (ZF _ (XC _ _ (M1 _ _ (R9 _ _ dO (Ee _ _ bJ)))) (R_ _ (xj _ _ (Ee _ _ bJ)) dO)))
       · obtain ⟨p15,q16,XD⟩:=bI.elem (i:=i0) o!
         have ae0:di env (some (.slice 23)) (some dB) (some (Zn i0))=some (AV.ptr p15 q16):=XD
         have ae1:bA env hh 23 (AV.ptr p15 q16)=some (AV.agg [(Zi (l_.g i0).aP),(Zi (l_.g i0).aF)]):=(bI.has aX).load o! XD
         obtain ⟨XE,ab8,M3,ab9,Se,M4⟩:=gu aL (aY.cells [(Zi (l_.g i0).aP),(Zi (l_.g i0).aF)] 23 false)
         have Sf:Has h XE:=aX.trans M4
         have Sg:Has hh XE:=M4
         obtain ⟨z20,OB,ZH,RW,Xx,aca,ae2,ZI,ZJ⟩:=bu.Ag (tys:= #[30,30]) (l:=ib) (m:=[(l_.g i0)]) (x:=(AV.slice hh.nx 0 1 1 false)) M3 bH Sf o! (bu.has B7 Sg) rfl (im (x:=(l_.g i0)) Se) (by simp [aA.c,Span.c,AV.scalar]) (by first | omega | (simp<;>omega)) rfl rfl k! k! (bytes:=16) k! (z0:=(AV.agg [(Zi 0),(Zi 0)])) k! rfl (by decide)
         have I0:Has h OB:=aca
         have ZK:∀y∈(ib++[(l_.g i0)]),aA.ok OB y:=dG (D:=Span) (nC (dG (D:=Span) (h':=XE) vJ) (ok_one trivial))
         have u22:=eR 3 false true i0 1 o!
         exact cP.round (by simp only[aZ,f1,f2,f3,aj,ai]) (pk (d) _ _ hh _ OB (CN 2<|VV ie<|VV (bz 3 false false .i64 ((i0:Nat):Int) ((l_.length:Nat):Int))<|BB q2<|CN 2<|VV py<|CC<|MM pz<|CN 2<|MM (aB 3 0 (Zi bB) bJ k!)<|VV (bz 3 false false .i64 (IntKind.i64.wrap (((l_.g i0).aF)+1)) bB)<|CC<|HH pz<|HH (show AV.same 20 (Zi (l_.g i0).aF) (Zi (l_.g i0).aF)=true from aG 19 _ _)<|HH (aB 3 0 (Zi bB) bJ k!)<|HH (show AV.same 20 (Zi bB) (Zi bB)=true from aG 19 _ _)<|BC f1<|MM (aB 3 1 (Zi bF) bJ k!)<|CN 3<|VV MX<|CC<|MM Jb<|VV (bz 3 false false .i64 (IntKind.i64.wrap (bF+1)) (l_.g i0).aP)<|CC<|HH (aB 3 1 (Zi bF) bJ k!)<|HH (show AV.same 20 (Zi bF) (Zi bF)=true from aG 19 _ _)<|HH Jb<|HH (show AV.same 20 (Zi (l_.g i0).aP) (Zi (l_.g i0).aP)=true from aG 19 _ _)<|BB f2<|CN 2<|BB f3<|CN 3<|VV ae0<|MM ae1<|NN ab8 (fun i=>(AV.slice i 0 1 1 false))<|PP (show b8 env XE #[30,30] B6 (AV.slice hh.nx 0 1 1 false)=some (z20,OB) from ZH)<|CN 2<|VV u22<|CC<|ZZ) k!) o! _ k! (fun x=>kR dB l_ cC bI rh bH rX dS (i0+1) (ib++[(l_.g i0)]) uC bB bF z20 o! x OB RW I0 o! (ZI _ _ dO (M4 _ _ bJ)) ae2 ZK (by first | omega | (simp<;>omega)) (ZJ _ (M3 _ _ (M4 _ _ bJ)) dO))
     · have pO:=of_decide_eq_false f2
       obtain ⟨p14,V9,Jd⟩:=bI.elem (i:=i0) o!
       have De:di env (some (.slice 23)) (some dB) (some (Zn i0))=some (AV.ptr p14 V9):=Jd
       have K7:bA env hh 3 (AV.ptr p14 (V9+0))=some (Zi (l_.g i0).aP):=(bI.has aX).part (t:=3) (j:=0) o! Jd k! rfl
       obtain ⟨p18,q19,Je⟩:=bI.elem (i:=i0) o!
       have Sh:di env (some (.slice 23)) (some dB) (some (Zn i0))=some (AV.ptr p18 q19):=Je
       have Jf:bA env hh 3 (AV.ptr p18 (q19+1))=some (Zi (l_.g i0).aF):=(bI.has aX).part (t:=3) (j:=1) o! Je k! rfl
       obtain ⟨h21,acb,acd,agz,ace,Si⟩:=pM (t:=23) (n:=2) (i:=cC) (L:=[(Zi (yK bB (l_.g i0).aP)),(Zi (imax bF (l_.g i0).aF))]) aL bJ k! rfl rfl (by simp only[AV.cells,List.all_cons,List.all_nil,Bool.and_true,Bool.and_self,eI,dt,eJ,eK,cI,gU,gV,gW,gX,gY,eL])
       have acf:Has h h21:=Has.cm aX Si bH o!
       have Jg:bu h h21 B6 ib:=bu.kept B7 Si dO
       have u22:=eR 3 false true i0 1 o!
       exact cP.round (by simp only[aZ,f1,f2,aj,ai]) (pk (d) _ _ hh _ h21 (CN 2<|VV ie<|VV (bz 3 false false .i64 ((i0:Nat):Int) ((l_.length:Nat):Int))<|BB q2<|CN 2<|VV py<|CC<|MM pz<|CN 2<|MM (aB 3 0 (Zi bB) bJ k!)<|VV (bz 3 false false .i64 (IntKind.i64.wrap (((l_.g i0).aF)+1)) bB)<|CC<|HH pz<|HH (show AV.same 20 (Zi (l_.g i0).aF) (Zi (l_.g i0).aF)=true from aG 19 _ _)<|HH (aB 3 0 (Zi bB) bJ k!)<|HH (show AV.same 20 (Zi bB) (Zi bB)=true from aG 19 _ _)<|BC f1<|MM (aB 3 1 (Zi bF) bJ k!)<|CN 3<|VV MX<|CC<|MM Jb<|VV (bz 3 false false .i64 (IntKind.i64.wrap (bF+1)) (l_.g i0).aP)<|CC<|HH (aB 3 1 (Zi bF) bJ k!)<|HH (show AV.same 20 (Zi bF) (Zi bF)=true from aG 19 _ _)<|HH Jb<|HH (show AV.same 20 (Zi (l_.g i0).aP) (Zi (l_.g i0).aP)=true from aG 19 _ _)<|BC f2<|MM (aB 3 0 (Zi bB) bJ k!)<|CN 2<|VV De<|CC<|MM K7<|CN 2<|MM (aB 3 1 (Zi bF) bJ k!)<|CN 2<|VV Sh<|CC<|MM Jf<|CN 2<|SS acb<|HH (aB 3 0 (Zi bB) bJ k!)<|HH (show AV.same 20 (Zi bB) (Zi bB)=true from aG 19 _ _)<|HH K7<|HH (show AV.same 20 (Zi (l_.g i0).aP) (Zi (l_.g i0).aP)=true from aG 19 _ _)<|HH (aB 3 1 (Zi bF) bJ k!)<|HH (show AV.same 20 (Zi bF) (Zi bF)=true from aG 19 _ _)<|HH Jf<|HH (show AV.same 20 (Zi (l_.g i0).aF) (Zi (l_.g i0).aF)=true from aG 19 _ _)<|CC<|VV u22<|CC<|ZZ) k!) o! _ k! (fun x=>kR dB l_ cC bI rh bH rX dS (i0+1) ib uC (yK bB (l_.g i0).aP) (imax bF (l_.g i0).aF) B6 o! x h21 acd acf o! ace Jg (dG (D:=Span) vJ) (by first | omega | (simp<;>omega)) dO)
def jo (l_:List Span) (x_:Span):List Span:=(bif (!((aZ l_ l_.length 0 ([]:List Span) false x_.aP x_.aF).2.1)) then (((aZ l_ l_.length 0 ([]:List Span) false x_.aP x_.aF).1)++([(⟨(aZ l_ l_.length 0 ([]:List Span) false x_.aP x_.aF).2.2.1,(aZ l_ l_.length 0 ([]:List Span) false x_.aP x_.aF).2.2.2⟩:Span)])) else (aZ l_ l_.length 0 ([]:List Span) false x_.aP x_.aF).1)
theorem K9 {d:Nat} {h:aw} {dB:AV} (l_:List Span) (x_:Span) (eY:aQ h dB l_) (ahd:aA.ok h x_) (jP:l_.length≤1000) (bH:Tidy h):∃z hk,cJ (d+1) (.fn 37) [dB,(AV.agg [(Zi x_.aP),(Zi x_.aF)])] h= .ret z hk∧Grow h hk∧aQ hk z (jo l_ x_)∧bu h hk z (jo l_ x_):=by
 have oP:=eY.small
 obtain ⟨h1,bD,bN,fX,aH,bZ⟩:=gu bH (aY.cells [(Zi x_.aP),(Zi x_.aF)] 23 false)
 have bk:Has h h1:=bZ
 obtain ⟨Up,OH,h3,fi,eZ,qn,oU,oV,K_,Gi,ae3,Px⟩:=kR (d:=d) (h:=h) dB l_ h.nx eY o! bH o! l_.length 0 ([]:List Span) false x_.aP x_.aF AV.aK o! (fun k_=>((dB::(AV.agg [(Zi x_.aP),(Zi x_.aF)])::AV.undef::(Pt h.nx)::AV.aK::AV.aK::(AV.bool false)::(Zi 0)::jl 70):List AV).getD k_ AV.undef) h1 bN bk o! aH (.inl ⟨.inl rfl,rfl⟩) (fun y hy=>by cases hy) (Nat.zero_le _) (bG.nil _)
 have ZL:aQ h3 Up ((aZ l_ l_.length 0 ([]:List Span) false x_.aP x_.aF).1):=bu.rows K_ o! Gi
 have adY:=ZL.small
 have fu:Has h h3:=oU
 rcases Bool.eq_false_or_eq_true (!((aZ l_ l_.length 0 ([]:List Span) false x_.aP x_.aF).2.1)) with f0 | f0
 · obtain ⟨h6,te,mf,Df,pR,jQ⟩:=gu eZ (aY.cells [(Zi (aZ l_ l_.length 0 ([]:List Span) false x_.aP x_.aF).2.2.1),(Zi (aZ l_ l_.length 0 ([]:List Span) false x_.aP x_.aF).2.2.2)] 23 false)
   have mg:Has h h6:=fu.trans jQ
   have M5:Has h3 h6:=jQ
   obtain ⟨z8,h7,acg,iR,V1,ae4,oz9,agA⟩:=bu.app (tys:= #[30,30]) (l:=(aZ l_ l_.length 0 ([]:List Span) false x_.aP x_.aF).1) (m:=[(⟨(aZ l_ l_.length 0 ([]:List Span) false x_.aP x_.aF).2.2.1,(aZ l_ l_.length 0 ([]:List Span) false x_.aP x_.aF).2.2.2⟩:Span)]) (x:=(AV.slice h3.nx 0 1 1 false)) mf bH mg o! (K_.has M5) rfl (im (x:=(⟨(aZ l_ l_.length 0 ([]:List Span) false x_.aP x_.aF).2.2.1,(aZ l_ l_.length 0 ([]:List Span) false x_.aP x_.aF).2.2.2⟩:Span)) pR) (by simp [aA.c,Span.c,AV.scalar]) (by first | omega | (simp<;>omega)) rfl rfl k! k! (bytes:=16) k! (z0:=(AV.agg [(Zi 0),(Zi 0)])) k! rfl (by decide)
   have hI:Has h h7:=ae4
   have XF:∀y∈(((aZ l_ l_.length 0 ([]:List Span) false x_.aP x_.aF).1)++([(⟨(aZ l_ l_.length 0 ([]:List Span) false x_.aP x_.aF).2.2.1,(aZ l_ l_.length 0 ([]:List Span) false x_.aP x_.aF).2.2.2⟩:Span)])),aA.ok h7 y:=dG (D:=Span) (nC (VY M5 Gi) (ok_one trivial))
   have ach:aQ h7 z8 (((aZ l_ l_.length 0 ([]:List Span) false x_.aP x_.aF).1)++([(⟨(aZ l_ l_.length 0 ([]:List Span) false x_.aP x_.aF).2.2.1,(aZ l_ l_.length 0 ([]:List Span) false x_.aP x_.aF).2.2.2⟩:Span)])):=bu.rows oz9 (by first | omega | (simp<;>omega)) XF
   have adZ:=ach.small
   have e:jo l_ x_=(((aZ l_ l_.length 0 ([]:List Span) false x_.aP x_.aF).1)++([(⟨(aZ l_ l_.length 0 ([]:List Span) false x_.aP x_.aF).2.2.1,(aZ l_ l_.length 0 ([]:List Span) false x_.aP x_.aF).2.2.2⟩:Span)])):=by simp only[jo,f0,aj,ai]
   rw[e]
   have oz:=bu.le (h0:=h) oz9 o!
   exact ⟨z8,gH rfl (a_ Try.func37 B5 rfl (.inr rfl) (pk (d) _ _ h _ h7 (NN bD (fun i=>(Pt i))<|CN 4<|LL fi<|CN 2<|BC f0<|MM (aB 23 0 (AV.agg [(Zi (aZ l_ l_.length 0 ([]:List Span) false x_.aP x_.aF).2.2.1),(Zi (aZ l_ l_.length 0 ([]:List Span) false x_.aP x_.aF).2.2.2)]) oV k!)<|NN te (fun i=>(AV.slice i 0 1 1 false))<|PP (show b8 env h6 #[30,30] Up (AV.slice h3.nx 0 1 1 false)=some (z8,h7) from acg)<|CN 3<|ZZ) k!) k!) bH ⟨iR,hI,by omega⟩ (P:=fun hh=>aQ hh z8 (((aZ l_ l_.length 0 ([]:List Span) false x_.aP x_.aF).1)++([(⟨(aZ l_ l_.length 0 ([]:List Span) false x_.aP x_.aF).2.2.1,(aZ l_ l_.length 0 ([]:List Span) false x_.aP x_.aF).2.2.2⟩:Span)]))∧bu h hh z8 (((aZ l_ l_.length 0 ([]:List Span) false x_.aP x_.aF).1)++([(⟨(aZ l_ l_.length 0 ([]:List Span) false x_.aP x_.aF).2.2.1,(aZ l_ l_.length 0 ([]:List Span) false x_.aP x_.aF).2.2.2⟩:Span)]))) ⟨bu.rows oz (by first | omega | decide) XF,oz⟩ fun v=>⟨bu.xa oz v,bu.s_ oz v⟩⟩
 · have e:jo l_ x_=((aZ l_ l_.length 0 ([]:List Span) false x_.aP x_.aF).1):=by simp only[jo,f0,aj,ai]
   rw[e]
   have oz:=bu.le (h0:=h) K_ o!
   exact ⟨Up,gH rfl (a_ Try.func37 B5 rfl (.inr rfl) (pk (d) _ _ h _ h3 (NN bD (fun i=>(Pt i))<|CN 4<|LL fi<|CN 2<|BB f0<|CN 2<|ZZ) k!) k!) bH ⟨eZ,fu,by omega⟩ (P:=fun hh=>aQ hh Up ((aZ l_ l_.length 0 ([]:List Span) false x_.aP x_.aF).1)∧bu h hh Up (aZ l_ l_.length 0 ([]:List Span) false x_.aP x_.aF).1) ⟨bu.rows oz (by first | omega | decide) Gi,oz⟩ fun v=>⟨bu.xa oz v,bu.s_ oz v⟩⟩

def ah (k:IntKind) (a b:Int):Int:=k.wrap ((BitVec.ofInt k.bits a&&& BitVec.ofInt k.bits b).toNat:Nat)
def M6 (k:IntKind) (a b:Int):Int:=k.wrap ((BitVec.ofInt k.bits a||| BitVec.ofInt k.bits b).toNat:Nat)
def au (k:IntKind) (x y:Int):Int:=x.fdiv (2^(min y.toNat k.bits))
def eB (k:IntKind) (x y:Int):Int:=k.wrap (x*2^(min y.toNat k.bits))
def ax (k:IntKind) (x y:Int):Int:=k.wrap (x+y)
theorem jR (t:TypeId) (c d:Bool) (k:IntKind) (a b:Int):cD env .and t c d (some (.int k a)) (some (.int k b))=some (.int k (ah k a b)):=by simp [cD,kr,dg,ah]
theorem M7 (t:TypeId) (c d:Bool) (k:IntKind) (a b:Int):cD env .or t c d (some (.int k a)) (some (.int k b))=some (.int k (M6 k a b)):=by simp [cD,kr,dg,M6]
theorem qo (t:TypeId) (c d:Bool) (k:IntKind) (a b:Int):cD env .add t c d (some (.int k a)) (some (.int k b))=some (.int k (ax k a b)):=by simp [cD,kr,dg,ax]
theorem mh (t:TypeId) (c d:Bool) (k j:IntKind) {a b:Int} (h:0≤b):cD env .shr t c d (some (.int k a)) (some (.int j b))=some (.int k (au k a b)):=by
 have h':¬b<0:=by omega
 simp [cD,kr,au,h']
theorem tf (t:TypeId) (c d:Bool) (k j:IntKind) {a b:Int} (h:0≤b):cD env .shl t c d (some (.int k a)) (some (.int j b))=some (.int k (eB k a b)):=by
 have h':¬b<0:=by omega
 simp [cD,kr,eB,h']
def La:Code:=(Try.f50.body).getD .skip
theorem V_:Try.f50.body=some La:=by kernel_rfl
def qp (set:Int) (aN:Int):Bool:=(decide ((ah .i64 (au .i64 set aN) 1)=1))
theorem M8 {d:Nat} {h:aw} (set:Int) (aN:Int) (jP:0≤aN) (bH:Tidy h):cJ (d+1) (.fn 50) [(Zi set),(Zi aN)] h= .ret (AV.bool (qp set aN)) h:=by
 have u1:cD env .shr 3 false false (some (Zi set)) (some (Zi aN))=some (Zi (au .i64 set aN)):=mh 3 false false .i64 .i64 o!
 have u2:cD env .and 3 false true (some (Zi (au .i64 set aN))) (some (Zi 1))=some (Zi (ah .i64 (au .i64 set aN) 1)):=jR 3 false true .i64 (au .i64 set aN) 1
 have e:qp set aN=(decide ((ah .i64 (au .i64 set aN) 1)=1)):=by simp only[qp,aj,ai]
 rw[e]
 exact az rfl (a_ Try.func50 V_ rfl (.inr rfl) (pk (d) _ _ h _ h (CN 3<|VV u1<|VV u2<|VV (fh 3 false true .i64 (ah .i64 (au .i64 set aN) 1) 1)<|CC<|ZZ) k!) k!) (Has.refl _) rfl
end
end Go.Proofs.aJ
