import Derived.Test.YtfllahfbmaafcaaW0
namespace Go.Proofs.aH
open Go.Proofs Ab
noncomputable section
set_option maxRecDepth 100000
set_option maxHeartbeats 4000000
set_option linter.unusedVariables false
set_option linter.unusedSimpArgs false
def Pv:Code:=(Try.f19.body).getD .skip
theorem aa7:Try.f19.body=some Pv:=by kernel_rfl
def dE (x_:List Int) (t:Int):Int:=(x_.g (rX t ((x_.length - 1:Nat):Int)).toNat)
theorem S8 {d:Nat} {h:au} {ug:AV} (x_:List Int) (t:Int) (LH:eS h .i64 3 ug x_) (mM:0<x_.length) (Ju:0≤t) (bY:Tidy h):cW (d+1) (.fn 19) [ug,(Zi t)] h= .ret (Zi (dE x_ t)) h:=by
 have aa8:=LH.small
 have im_:0≤rX t ((x_.length - 1:Nat):Int)∧rX t ((x_.length - 1:Nat):Int)≤((x_.length - 1:Nat):Int):=by unfold rX;split<;>omega
 have nY:dJ (some (.slice 3)) (some ug)=some (Zn x_.length):=LH.len
 have u2:=GS 3 false true x_.length 1 o! o!
 obtain ⟨p4,q5,pH,_⟩:=LH.elem (i:=(rX t ((x_.length - 1:Nat):Int)).toNat) o!
 have DP:dr env (some (.slice 3)) (some ug) (some (Zi (rX t ((x_.length - 1:Nat):Int))))=some (AV.ptr p4 q5):=by rw[show ((rX t ((x_.length - 1:Nat):Int)):Int)=(((rX t ((x_.length - 1:Nat):Int)).toNat:Nat):Int) by omega];exact pH
 have Af:bG env h 3 (AV.ptr p4 q5)=some (Zi (x_.g (rX t ((x_.length - 1:Nat):Int)).toNat)):=LH.load o! pH
 have e:dE x_ t=(x_.g (rX t ((x_.length - 1:Nat):Int)).toNat):=by simp only[dE,ao,ai]
 rw[e]
 exact aC rfl (bx Try.func19 aa7 rfl (.inr rfl) (pk (d) _ _ h _ h (CN 4<|VV nY<|VV u2<|CC<|VV DP<|MM Af<|CC<|ZZ) k!) k!) (Has.refl _) rfl
theorem aZ.suf {α:Type} [aA α] {h:au} {v:AV} {l:List α} (x:aZ h v l) {t:TypeId} (ht:env.P.underlying t=some (.slice (aA.e α))) {i:Nat} (h0:0<l.length) (hi:i≤l.length):∃r,dw env t v (some (.int .i64 ((i:Nat):Int))) none none=some r∧aZ h r (l.drop i):=by
 rcases x.at_.block with h1 | ⟨p,o,m,c,b,C,f,ro,h1,hc,h2,h3⟩
 · omega
 · subst h1
   have hm:m=l.length:=by
    have:=x.at_.lens
    rw[f'] at this
    simp only[Option.some.injEq,AV.int.injEq,true_and] at this
    omega
   subst hm
   have bo:=nW (len:=l.length) (cap:=c) (some (.int .i64 ((i:Nat):Int))) none (.inl rfl) (.inr ⟨rfl,rfl⟩) hi hc
   have V4:=x.small
   have hd:(l.drop i).length<2^60:=by rw[List.length_drop];omega
   have fl:((l.drop i).flatMap aA.c).length=(l.drop i).length*aA.n α:=ch aA.len _
   have ok:∀y∈l.drop i,aA.ok h y:=fun y hy=>x.GU y (List.mem_of_mem_drop hy)
   by_cases e:c=i
   · subst e
     have hz:l.drop c=[]:=List.drop_eq_nil_of_le o!
     cases b with
     | true=>
       refine ⟨.dN,?_,⟨⟨x.at_.size,fl,hd,by rw[hz];rfl,.inl (by rw[hz];rfl)⟩,.inr (.inl rfl),ok⟩⟩
       simp only[dw,ht,x.at_.size,hc,if_true,bo]
       rfl
     | false=>
       refine ⟨.slice p o (l.length - c) (c - c) false,?_,⟨⟨x.at_.size,fl,hd,by rw[List.length_drop];exact f' _ _ _ _ _ _,.inl (by rw[hz];rfl)⟩,.inr (.inr ⟨_,_,_,_,_,rfl,fun q=>by cases q⟩),ok⟩⟩
       simp only[dw,ht,x.at_.size,hc,if_true,bo]
       simp
   · refine ⟨.slice p (o+i*aA.n α) (l.length - i) (c - i) b,?_,⟨⟨x.at_.size,fl,hd,by rw[List.length_drop];exact f' _ _ _ _ _ _,.inr ⟨p,o+i*aA.n α,_,_,b,C,f,ro,rfl,by omega,h2,fun j hj=>?_⟩⟩,.inr (.inr ⟨_,_,_,_,_,rfl,fun _=>by omega⟩),ok⟩⟩
     · simp only[dw,ht,x.at_.size,hc,if_true,bo]
       rw[if_neg e]
       simp
     · rw[fl,List.length_drop] at hj
       have ke:i*aA.n α+j<(l.flatMap aA.c).length:=by
        rw[ch aA.len]
        have:=Nat.sub_mul l.length i (aA.n α)
        have:=Nat.mul_le_mul_right (aA.n α) hi
        omega
       rw[Nat.add_assoc,h3 _ ke]
       have e2:l=l.take i++l.drop i:=(List.take_append_drop i l).symm
       conv=>lhs;rw[e2,List.flatMap_append]
       rw[List.getElem?_append_right (by rw[ch aA.len,List.length_take,Nat.min_eq_left hi];omega),ch aA.len,List.length_take,Nat.min_eq_left hi,Nat.add_sub_cancel_left]
theorem modn {a b:Int} (hb:0<b) (hs:b<2^62):0≤Int.tmod (IntKind.i64.wrap (Int.tmod a b+b)) b∧Int.tmod (IntKind.i64.wrap (Int.tmod a b+b)) b<b:=by
 have h1:=Int.tmod_lt_of_pos a hb
 have h2: -b<Int.tmod a b:=by
  rcases Int.le_total 0 a with h | h
  · have:=Int.tmod_nonneg b h;omega
  · have:=Int.tmod_lt_of_pos (-a) hb
    rw[Int.neg_tmod] at this;omega
 rw[wrap_i64 o! o!]
 exact ⟨Int.tmod_nonneg b o!,Int.tmod_lt_of_pos _ hb⟩
def uU:Code:=(Try.f21.body).getD .skip
theorem LI:Try.f21.body=some uU:=by kernel_rfl
def ab (n:Int) (aX:Int) (aG:Int):Int:=(IntKind.i64.wrap (aX+(Int.tmod (IntKind.i64.wrap ((Int.tmod n ((aG - aX)+1))+((aG - aX)+1))) ((aG - aX)+1))))
theorem mc {d:Nat} {h:au} (n:Int) (aX:Int) (aG:Int) (mM: -1000000000000≤aX) (Ju:aX≤aG) (GW:aG≤1000000000000) (bY:Tidy h):cW (d+1) (.fn 21) [(Zi n),(Zi aX),(Zi aG)] h= .ret (Zi (ab n aX aG)) h:=by
 have w1:IntKind.i64.wrap (aG - aX)=aG - aX:=wrap_i64 o! o!
 have w2:IntKind.i64.wrap ((aG - aX)+1)=(aG - aX)+1:=wrap_i64 o! o!
 obtain ⟨im0,S9⟩:∃q_:Int,q_=(Int.tmod (IntKind.i64.wrap ((Int.tmod n ((aG - aX)+1))+((aG - aX)+1))) ((aG - aX)+1)):=⟨_,rfl⟩
 have ahq:0≤im0∧im0<((aG - aX)+1):=by rw[S9];exact modn o! (by first | omega | exact ahr _ _ _)
 have ev:=pk (d) uU ((Zi n)::(Zi aX)::(Zi aG)::kX 18) h .ret h (CN 3<|VV (wM 3 false false w1)<|VV (Lk 3 false true w2)<|CN 4<|VV (show cF env .rem 3 false false (some (Zi n)) (some (Zi ((aG - aX)+1)))=some (Zi (Int.tmod n ((aG - aX)+1))) from Ch o! rfl)<|CN 3<|VV (show cF env .rem 3 false false (some (Zi (IntKind.i64.wrap ((Int.tmod n ((aG - aX)+1))+((aG - aX)+1))))) (some (Zi ((aG - aX)+1)))=some (Zi im0) from Ch o! S9.symm)<|CN 2<|ZZ) k!
 subst S9
 have e:ab n aX aG=(IntKind.i64.wrap (aX+(Int.tmod (IntKind.i64.wrap ((Int.tmod n ((aG - aX)+1))+((aG - aX)+1))) ((aG - aX)+1)))):=by simp only[ab,ao,ai]
 rw[e]
 exact aC rfl (bx Try.func21 LI k! (.inr rfl) ev k!) (Has.refl _) rfl
def GX:Code:=(Try.f30.body).getD .skip
theorem EO:Try.f30.body=some GX:=by kernel_rfl
def ff (n:Int):Bool:=(bif (decide (0≤n)) then (decide (n≤100000)) else false)
theorem EP {d:Nat} {h:au} (n:Int) (bY:Tidy h):cW (d+1) (.fn 30) [(Zi n)] h= .ret (AV.bool (ff n)) h:=by
 rcases Bool.eq_false_or_eq_true (decide (0≤n)) with f0 | f0
 · have j8:=of_decide_eq_true f0
   have e:ff n=(decide (n≤100000)):=by simp only[ff,f0,ao,ai]
   rw[e]
   exact aC rfl (bx Try.func30 EO rfl (.inr rfl) (pk (d) _ _ h _ h (CN 2<|VV (qh 3 false true .i64 n 0)<|CC<|BC f0<|BV f0 (qg 3 false true .i64 n 100000)<|VV (pG (decide (n≤100000)) false f0)<|CC<|ZZ) k!) k!) (Has.refl _) rfl
 · have j8:=of_decide_eq_false f0
   have e:ff n=false:=by simp only[ff,f0,ao,ai]
   rw[e]
   exact aC rfl (bx Try.func30 EO rfl (.inr rfl) (pk (d) _ _ h _ h (CN 2<|VV (qh 3 false true .i64 n 0)<|CC<|BB f0<|BV f0 (vG false f0)<|CC<|ZZ) k!) k!) (Has.refl _) rfl
def xn:Code:=(Try.f38.body).getD .skip
theorem ig:Try.f38.body=some xn:=by kernel_rfl
def bD (g:bV):Int:=(bif (decide (g.acc<0)) then 1 else (bif (decide (1000000000<g.acc)) then 1 else (bif (decide (g.bP<0)) then 1 else (bif (decide (1000000000<g.bP)) then 1 else (bif (!(ff g.since)) then 1 else 0)))))
theorem s6 {d:Nat} {h:au} (g:bV) (Wa:aA.ok h g) (bY:Tidy h):cW (d+2) (.fn 38) [(AV.agg [(AV.str g.name),(Zi g.acc),(Zi g.bP),(Zi g.since)])] h= .ret (Zi (bD g)) h:=by
 obtain ⟨h1,cA,cq,jf,aY,ct⟩:=iQ bY (a_.cells [(AV.str g.name),(Zi g.acc),(Zi g.bP),(Zi g.since)] 45 false)
 have bI:Has h h1:=ct
 rcases Bool.eq_false_or_eq_true (decide (g.acc<0)) with f0 | f0
 · have j8:=of_decide_eq_true f0
   have e:bD g=1:=by simp only[bD,f0,ao,ai]
   rw[e]
   exact aC rfl (bx Try.func38 ig rfl (.inr rfl) (pk (d+1) _ _ h _ h1 (NN cA (fun i=>(Pt i))<|CN 2<|MM (aM 3 1 (Zi g.acc) aY k!)<|VV (bZ 3 false true .i64 g.acc 0)<|CC<|BB f0<|BB f0<|BV f0 (pa true f0)<|CC<|TT<|TT<|TT<|CN 2<|TT<|TT<|TT<|CN 2<|TT<|TT<|TT<|TT<|CC<|TT<|CC<|ZZ) k!) k!) bI rfl
 · have j8:=of_decide_eq_false f0
   rcases Bool.eq_false_or_eq_true (decide (1000000000<g.acc)) with f1 | f1
   · have jg:=of_decide_eq_true f1
     have e:bD g=1:=by simp only[bD,f0,f1,ao,ai]
     rw[e]
     exact aC rfl (bx Try.func38 ig rfl (.inr rfl) (pk (d+1) _ _ h _ h1 (NN cA (fun i=>(Pt i))<|CN 2<|MM (aM 3 1 (Zi g.acc) aY k!)<|VV (bZ 3 false true .i64 g.acc 0)<|CC<|BC f0<|BM f0 (aM 3 1 (Zi g.acc) aY k!)<|BV f0 (cg 3 false true .i64 g.acc 1000000000)<|VV (ba (a:=some (AV.bool true)) (b:=some (AV.bool (decide (1000000000<g.acc)))) f0)<|CC<|BB f1<|BB f1<|BV f1 (pa true f1)<|CC<|TT<|TT<|TT<|CN 2<|TT<|TT<|TT<|TT<|CC<|TT<|CC<|ZZ) k!) k!) bI rfl
   · have jg:=of_decide_eq_false f1
     rcases Bool.eq_false_or_eq_true (decide (g.bP<0)) with f2 | f2
     · have nr:=of_decide_eq_true f2
       have e:bD g=1:=by simp only[bD,f0,f1,f2,ao,ai]
       rw[e]
       exact aC rfl (bx Try.func38 ig rfl (.inr rfl) (pk (d+1) _ _ h _ h1 (NN cA (fun i=>(Pt i))<|CN 2<|MM (aM 3 1 (Zi g.acc) aY k!)<|VV (bZ 3 false true .i64 g.acc 0)<|CC<|BC f0<|BM f0 (aM 3 1 (Zi g.acc) aY k!)<|BV f0 (cg 3 false true .i64 g.acc 1000000000)<|VV (ba (a:=some (AV.bool true)) (b:=some (AV.bool (decide (1000000000<g.acc)))) f0)<|CC<|BC f1<|BM f1 (aM 3 2 (Zi g.bP) aY k!)<|BV f1 (bZ 3 false true .i64 g.bP 0)<|VV (ba (a:=some (AV.bool true)) (b:=some (AV.bool (decide (g.bP<0)))) f1)<|CC<|BB f2<|BB f2<|BV f2 (pa true f2)<|CC<|TT<|TT<|TT<|TT<|CC<|TT<|CC<|ZZ) k!) k!) bI rfl
     · have nr:=of_decide_eq_false f2
       rcases Bool.eq_false_or_eq_true (decide (1000000000<g.bP)) with f3 | f3
       · have jy:=of_decide_eq_true f3
         have e:bD g=1:=by simp only[bD,f0,f1,f2,f3,ao,ai]
         rw[e]
         exact aC rfl (bx Try.func38 ig rfl (.inr rfl) (pk (d+1) _ _ h _ h1 (NN cA (fun i=>(Pt i))<|CN 2<|MM (aM 3 1 (Zi g.acc) aY k!)<|VV (bZ 3 false true .i64 g.acc 0)<|CC<|BC f0<|BM f0 (aM 3 1 (Zi g.acc) aY k!)<|BV f0 (cg 3 false true .i64 g.acc 1000000000)<|VV (ba (a:=some (AV.bool true)) (b:=some (AV.bool (decide (1000000000<g.acc)))) f0)<|CC<|BC f1<|BM f1 (aM 3 2 (Zi g.bP) aY k!)<|BV f1 (bZ 3 false true .i64 g.bP 0)<|VV (ba (a:=some (AV.bool true)) (b:=some (AV.bool (decide (g.bP<0)))) f1)<|CC<|BC f2<|BM f2 (aM 3 2 (Zi g.bP) aY k!)<|BV f2 (cg 3 false true .i64 g.bP 1000000000)<|VV (ba (a:=some (AV.bool true)) (b:=some (AV.bool (decide (1000000000<g.bP)))) f2)<|CC<|BB f3<|BB f3<|BB f3<|BV f3 (pa true f3)<|TT<|CC<|ZZ) k!) k!) bI rfl
       · have jy:=of_decide_eq_false f3
         have k6:=EP (d:=d) g.since cq
         rcases Bool.eq_false_or_eq_true (!(ff g.since)) with f4 | f4
         · have e:bD g=1:=by simp only[bD,f0,f1,f2,f3,f4,ao,ai]
           rw[e]
           exact aC rfl (bx Try.func38 ig rfl (.inr rfl) (pk (d+1) _ _ h _ h1 (NN cA (fun i=>(Pt i))<|CN 2<|MM (aM 3 1 (Zi g.acc) aY k!)<|VV (bZ 3 false true .i64 g.acc 0)<|CC<|BC f0<|BM f0 (aM 3 1 (Zi g.acc) aY k!)<|BV f0 (cg 3 false true .i64 g.acc 1000000000)<|VV (ba (a:=some (AV.bool true)) (b:=some (AV.bool (decide (1000000000<g.acc)))) f0)<|CC<|BC f1<|BM f1 (aM 3 2 (Zi g.bP) aY k!)<|BV f1 (bZ 3 false true .i64 g.bP 0)<|VV (ba (a:=some (AV.bool true)) (b:=some (AV.bool (decide (g.bP<0)))) f1)<|CC<|BC f2<|BM f2 (aM 3 2 (Zi g.bP) aY k!)<|BV f2 (cg 3 false true .i64 g.bP 1000000000)<|VV (ba (a:=some (AV.bool true)) (b:=some (AV.bool (decide (1000000000<g.bP)))) f2)<|CC<|BC f3<|BM f3 (aM 3 3 (Zi g.since) aY k!)<|BB f3<|EE k6<|BC f3<|VV (ba (a:=some (AV.bool true)) (b:=some (AV.bool (!(ff g.since)))) f3)<|BC f4<|ZZ) k!) k!) bI rfl
         · have e:bD g=0:=by simp only[bD,f0,f1,f2,f3,f4,ao,ai]
           rw[e]
           exact aC rfl (bx Try.func38 ig rfl (.inr rfl) (pk (d+1) _ _ h _ h1 (NN cA (fun i=>(Pt i))<|CN 2<|MM (aM 3 1 (Zi g.acc) aY k!)<|VV (bZ 3 false true .i64 g.acc 0)<|CC<|BC f0<|BM f0 (aM 3 1 (Zi g.acc) aY k!)<|BV f0 (cg 3 false true .i64 g.acc 1000000000)<|VV (ba (a:=some (AV.bool true)) (b:=some (AV.bool (decide (1000000000<g.acc)))) f0)<|CC<|BC f1<|BM f1 (aM 3 2 (Zi g.bP) aY k!)<|BV f1 (bZ 3 false true .i64 g.bP 0)<|VV (ba (a:=some (AV.bool true)) (b:=some (AV.bool (decide (g.bP<0)))) f1)<|CC<|BC f2<|BM f2 (aM 3 2 (Zi g.bP) aY k!)<|BV f2 (cg 3 false true .i64 g.bP 1000000000)<|VV (ba (a:=some (AV.bool true)) (b:=some (AV.bool (decide (1000000000<g.bP)))) f2)<|CC<|BC f3<|BM f3 (aM 3 3 (Zi g.since) aY k!)<|BB f3<|EE k6<|BC f3<|VV (ba (a:=some (AV.bool true)) (b:=some (AV.bool (!(ff g.since)))) f3)<|BC f4<|ZZ) k!) k!) bI rfl
def GY:Code:=(Try.f33.body).getD .skip
theorem Pw:Try.f33.body=some GY:=by kernel_rfl
def dy (g:bV) (t:Int):Int:=(IntKind.i64.wrap (g.acc+(IntKind.i64.wrap (g.bP*(IntKind.i64.wrap (Int.tdiv (IntKind.i64.wrap ((imax (IntKind.i64.wrap (t - g.since)) 0)+999)) 1000))))))
theorem Px {d:Nat} {h:au} (g:bV) (t:Int) (Wa:aA.ok h g) (bY:Tidy h):cW (d+1) (.fn 33) [(AV.agg [(AV.str g.name),(Zi g.acc),(Zi g.bP),(Zi g.since)]),(Zi t)] h= .ret (Zi (dy g t)) h:=by
 obtain ⟨h1,cA,cq,jf,aY,ct⟩:=iQ bY (a_.cells [(AV.str g.name),(Zi g.acc),(Zi g.bP),(Zi g.since)] 45 false)
 have bI:Has h h1:=ct
 have e:dy g t=(IntKind.i64.wrap (g.acc+(IntKind.i64.wrap (g.bP*(IntKind.i64.wrap (Int.tdiv (IntKind.i64.wrap ((imax (IntKind.i64.wrap (t - g.since)) 0)+999)) 1000)))))):=by simp only[dy,ao,ai]
 rw[e]
 exact aC rfl (bx Try.func33 Pw rfl (.inr rfl) (pk (d) _ _ h _ h1 (NN cA (fun i=>(Pt i))<|CN 3<|MM (aM 3 3 (Zi g.since) aY k!)<|CN 4<|MM (aM 3 1 (Zi g.acc) aY k!)<|CC<|MM (aM 3 2 (Zi g.bP) aY k!)<|CN 6<|ZZ) k!) k!) bI rfl
def GZ:Code:=(Try.f39.body).getD .skip
theorem yZ:Try.f39.body=some GZ:=by kernel_rfl
def bh (g:bV) (t:Int):Int×Int:=(bif (decide ((bD g)=0)) then (bif (!(ff t)) then (0,1) else ((dy g t),0)) else (0,(bD g)))
theorem Py {d:Nat} {h:au} (g:bV) (t:Int) (Wa:aA.ok h g) (bY:Tidy h):cW (d+3) (.fn 39) [(AV.agg [(AV.str g.name),(Zi g.acc),(Zi g.bP),(Zi g.since)]),(Zi t)] h= .ret (AV.tuple [(Zi (bh g t).1),(Zi (bh g t).2)]) h:=by
 obtain ⟨h1,cA,cq,jf,aY,ct⟩:=iQ bY (a_.cells [(AV.str g.name),(Zi g.acc),(Zi g.bP),(Zi g.since)] 45 false)
 have bI:Has h h1:=ct
 have k2:=s6 (d:=d) g (aA.mono bI Wa) cq
 rcases Bool.eq_false_or_eq_true (decide ((bD g)=0)) with f0 | f0
 · have j8:=of_decide_eq_true f0
   have k4:=EP (d:=d+1) t cq
   rcases Bool.eq_false_or_eq_true (!(ff t)) with f1 | f1
   · have e:bh g t=(0,1):=by simp only[bh,f0,f1,ao,ai]
     rw[e]
     exact aC rfl (bx Try.func39 yZ rfl (.inr rfl) (pk (d+2) _ _ h _ h1 (NN cA (fun i=>(Pt i))<|CN 2<|MM (aM 45 0 (AV.agg [(AV.str g.name),(Zi g.acc),(Zi g.bP),(Zi g.since)]) aY k!)<|EE k2<|CN 2<|VV (o_ 31 false true .i64 (bD g) 0)<|CC<|BC f0<|BB f0<|EE k4<|BC f0<|VV (pG (!(ff t)) false f0)<|BB f1<|CN 3<|TT<|CN 3<|ZZ) k!) k!) bI rfl
   · have q6:(!decide ((bD g)=0))=false:=d!
     have k7:=Px (d:=d+1) g t (aA.mono bI Wa) cq
     have e:bh g t=((dy g t),0):=by simp only[bh,f0,f1,ao,ai]
     rw[e]
     exact aC rfl (bx Try.func39 yZ rfl (.inr rfl) (pk (d+2) _ _ h _ h1 (NN cA (fun i=>(Pt i))<|CN 2<|MM (aM 45 0 (AV.agg [(AV.str g.name),(Zi g.acc),(Zi g.bP),(Zi g.since)]) aY k!)<|EE k2<|CN 2<|VV (o_ 31 false true .i64 (bD g) 0)<|CC<|BC f0<|BB f0<|EE k4<|BC f0<|VV (pG (!(ff t)) false f0)<|BC f1<|VV (jw 31 false true .i64 (bD g) 0)<|BM q6 (aM 45 0 (AV.agg [(AV.str g.name),(Zi g.acc),(Zi g.bP),(Zi g.since)]) aY k!)<|CC<|EE k7<|CN 2<|ZZ) k!) k!) bI rfl
 · have j8:=of_decide_eq_false f0
   have q4:(!decide ((bD g)=0))=true:=d!
   have e:bh g t=(0,(bD g)):=by simp only[bh,f0,ao,ai]
   rw[e]
   exact aC rfl (bx Try.func39 yZ rfl (.inr rfl) (pk (d+2) _ _ h _ h1 (NN cA (fun i=>(Pt i))<|CN 2<|MM (aM 45 0 (AV.agg [(AV.str g.name),(Zi g.acc),(Zi g.bP),(Zi g.since)]) aY k!)<|EE k2<|CN 2<|VV (o_ 31 false true .i64 (bD g) 0)<|CC<|BB f0<|BB f0<|BV f0 (vG false f0)<|FF<|CC<|VV (jw 31 false true .i64 (bD g) 0)<|BB q4<|CN 3<|ZZ) k!) k!) bI rfl
def Co (z w:AV):Prop:=∀k,bJ z k∨bJ w k
theorem bJ.nil (k:Nat):bJ .aQ k:=fun _ _ _ _ e=>by cases e
theorem Co.nil (w:AV):Co .aQ w:=fun k=> .inl (bJ.nil k)
theorem Co.symm {z w:AV} (a:Co z w):Co w z:=fun k=>(a k).symm
theorem bJ.sl {p o n c k:Nat} {b:Bool} (h:p≠k):bJ (.slice p o n c b) k:=fun o' n' c' b' e=>h (AV.slice.inj e).1
section
variable {e:TypeId} {g h h':au} {z z' w:AV} {L M:List AV}
theorem dx.s7 (y:Tidy h) (o:dx e g h z L) {k:Nat} (hk:h.nx≤k):bJ z k:=by
 rcases o with ⟨rfl,_⟩ | ⟨_,p,op,rfl,_,hg⟩
 · exact bJ.nil k
 · have:=y _ _ hg
   exact bJ.sl o!
theorem dx.aX (o:dx e g h z L) {k:Nat} (hk:k<g.nx):bJ z k:=by
 rcases o with ⟨rfl,_⟩ | ⟨_,p,op,rfl,hp,hg⟩
 · exact bJ.nil k
 · exact bJ.sl o!
theorem dx.wo (o:dx e g h w L) (ap:Co z w) (kp:∀i x,bJ z i→h.get i=some x→h'.get i=some x):dx e g h' w L:=by
 rcases o with ⟨rfl,e0⟩ | ⟨hn,p,op,rfl,hp,hg⟩
 · exact .inl ⟨rfl,e0⟩
 · exact .inr ⟨hn,p,op,rfl,hp,kp _ _ ((ap p).resolve_right fun q=>q _ _ _ _ rfl) hg⟩
theorem dx.XP {b:Nat} {C:a_} (o:dx e g h z L) (c:Chg h h' b C) (n:bJ z b):dx e g h' z L:=by
 rcases o with ⟨rfl,e0⟩ | ⟨hn,p,op,rfl,hp,hg⟩
 · exact .inl ⟨rfl,e0⟩
 · exact .inr ⟨hn,p,op,rfl,hp,c.2.2 _ _ (fun q=>n 0 _ _ op (by subst q;rfl)) hg⟩
theorem dx.scalar (o:dx e g h z L):AV.scalar z=true:=by
 rcases o with ⟨rfl,_⟩ | ⟨_,p,op,rfl,_,_⟩<;>rfl
theorem dx.kept {b:Nat} (o:dx e g h z L) (c:Kept b h h') (n:bJ z b):dx e g h' z L:=by
 rcases o with ⟨rfl,e0⟩ | ⟨hn,p,op,rfl,hp,hg⟩
 · exact .inl ⟨rfl,e0⟩
 · exact .inr ⟨hn,p,op,rfl,hp,c _ _ (fun q=>n 0 _ _ op (by subst q;rfl)) hg⟩
theorem dx.same {L':List AV} (o:dx e g h z L) (o':dx e g h' z L') (a:Has h h'):L'=L:=by
 rcases o with ⟨rfl,e0⟩ | ⟨hn,p,op,rfl,hp,hg⟩<;>rcases o' with ⟨e1,e2⟩ | ⟨hn',p',op',e1,hp',hg'⟩
 · rw[e0,e2]
 · cases e1
 · cases e1
 · have q:=(AV.slice.inj e1).1
   subst q
   have:=a _ _ hg
   rw[hg'] at this
   simpa using this
theorem dx.O4 {s xt:TypeId} {xd:TypeDesc} {tys:Array TypeId} {bytes:Nat} {z0 x:AV} (y:Tidy h) (hle:g.nx≤h.nx) (o:dx e g h z L) (t0:tys[0]? =some s) (t1:tys[1]? =some xt) (hs:env.P.underlying s=some (.slice e)) (hx:env.P.underlying xt=some xd) (hi:kB xd=false) (HY:b7 env e=some 1) (hb:fh env e=some bytes) (qf:eU env e=some z0) (hz:z0.cells.length=1) (h8:bytes≤63) (hlen:kV x=some M.length) (hf:eR h 1 M.length x=some M) (o7:M.all AV.scalar=true) (hl:L.length+M.length≤1073741824):
 ∃z' h',bU env h tys z x=some (z',h')∧Tidy h'∧h.nx≤h'.nx∧dx e g h' z' (L++M)∧(∀i w,bJ z i→h.get i=some w→h'.get i=some w)∧(∀k,k<h.nx→bJ z k→bJ z' k):=by
 by_cases hm:M=[]
 · subst hm
   rcases o with ⟨rfl,rfl⟩ | ⟨hn,p,op,rfl,hp,hg⟩
   · refine ⟨.aQ,h,?_,y,Nat.le_refl _,.inl ⟨rfl,rfl⟩,fun _ _ _ q=>q,fun _ _ q=>q⟩
     simp only[List.length_nil] at hlen hf
     simp only[bU,t0,t1,hs,hx,hi,HY,hb,hlen,hf,qf,hz,o7,if_true,if_false,and_self,List.length_nil,Bool.false_eq_true,Nat.zero_mul]
   · have hg2:∀i,(h.put p (some (.cells L e false))).get i=h.get i:=fun i=>by
      by_cases q:i=p
      · subst q;rw[au.bS,hg]
      · rw[au.bA (Ne.symm q)]
     refine ⟨_,h.put p (some (.cells L e false)),?_,fun i x q=>y i x (by rw[←hg2];exact q),Nat.le_refl _,.inr ⟨by simpa using hn,p,op,by rw[List.append_nil],hp,by rw[hg2,List.append_nil];exact hg⟩,fun i w _ q=>by rw[hg2];exact q,fun _ _ q=>q⟩
     simp only[List.length_nil] at hlen hf
     simp only[bU,t0,t1,hs,hx,hi,HY,hb,hlen,hf,qf,hz,o7,hg,if_true,if_false,and_self,List.length_nil,Bool.false_eq_true,Nat.zero_mul,Nat.add_zero,Nat.zero_add,Nat.le_refl,Nat.mul_one,setFrom]
 · rcases o with ⟨rfl,rfl⟩ | ⟨hn,p,op,rfl,hp,hg⟩
   · obtain ⟨h',e1,n⟩:=sX (h:=h) t0 t1 hs hx hi HY hb qf hz h8 hlen hf o7 hm (by simpa using hl)
     have:=kE n
     exact ⟨_,h',e1,fi y n,by omega,.inr ⟨by simpa using hm,h.nx,true,by simp,hle,iJ n⟩,fun i w _ q=>eW y n q,fun k hk _=>bJ.sl o!⟩
   · obtain ⟨h',e1,y1,z1,k1,g1⟩:=sY (op:=op) y t0 t1 hs hx hi HY hb qf hz h8 hlen hf o7 rfl hm hl hg
     exact ⟨_,h',e1,y1,by omega,.inr ⟨by simp [hn],h.nx,true,by rw[List.length_append],hle,g1⟩,fun i w q=>k1 i w (fun e=>q 0 L.length L.length op (by subst e;rfl)),fun k hk _=>bJ.sl o!⟩
end
section
variable {α:Type} [aA α] {h0 h h':au} {z z' w:AV} {l m:List α}
theorem bC.ad5 {s xt:TypeId} {tys:Array TypeId} {bytes N:Nat} {z0 x:AV} (y:Tidy h) (y0:Tidy h0) (a:Has h0 h) (hle:h0.nx≤h.nx) (o:bC h0 h z l) (hlen:kV x=some m.length) (hf:eR h (aA.n α) m.length x=some (m.flatMap aA.c)) (o7:(m.flatMap aA.c).all AV.scalar=true) (hl:l.length+m.length≤N)
 (t0:tys[0]? =some s) (t1:tys[1]? =some xt) (hs:env.P.underlying s=some (.slice (aA.e α))) (hx:env.P.underlying xt=some (.slice (aA.e α))) (hb:fh env (aA.e α)=some bytes) (qf:eU env (aA.e α)=some z0) (hz:z0.cells.length=aA.n α) (XN:∀k,k≤N→(4*k+4096)*(bytes+1)≤1099511627776):
 ∃z' h',bU env h tys z x=some (z',h')∧Tidy h'∧h.nx≤h'.nx∧Has h0 h'∧bC h0 h' z' (l++m)∧(∀i w,bJ z i→h.get i=some w→h'.get i=some w)∧(∀k,k<h.nx→bJ z k→bJ z' k):=by
 have xh:=ch aA.len m
 have hi:kB (.slice (aA.e α))=false:=rfl
 have xj:∀{p:Nat} {ob:a_},h.get p=some ob→Tidy (h.put p (some ob))∧Has h0 (h.put p (some ob))∧(∀i w,h.get i=some w→(h.put p (some ob)).get i=some w):=fun {p ob} g=>by
  have hg:∀i,(h.put p (some ob)).get i=h.get i:=fun i=>by
   by_cases e:i=p
   · subst e;rw[au.bS,g]
   · rw[au.bA (Ne.symm e)]
  exact ⟨fun i w q=>y i w (by rw[←hg];exact q),fun i w q=>by rw[hg];exact a i w q,fun i w q=>by rw[hg];exact q⟩
 have SY:m≠ []→∃h',h.new (.cells (m.flatMap aA.c) (aA.e α) false)=some h'∧Tidy h'∧h.nx≤h'.nx∧Has h0 h'∧bC h0 h' (.slice h.nx 0 m.length m.length true) m∧∀i w,h.get i=some w→h'.get i=some w:=fun hm=>by
  obtain ⟨h',n⟩:=kF (h:=h) (.cells (m.flatMap aA.c) (aA.e α) false)
  have:=kE n
  exact ⟨h',n,fi y n,by omega,a.trans (ud y n),.inr ⟨hm,h.nx,true,rfl,hle,iJ n⟩,fun i w g=>eW y n g⟩
 rcases o with ⟨rfl | ⟨p,rfl,hp,hg⟩,rfl⟩ | ⟨hn,p,op,rfl,hp,hg⟩
 · rw[List.nil_append]
   by_cases hm:m=[]
   · subst hm
     simp only[List.length_nil,List.flatMap_nil,Nat.zero_mul] at hlen hf o7 xh
     refine ⟨.aQ,h,?_,y,Nat.le_refl _,a,.inl ⟨.inl rfl,rfl⟩,fun _ _ _ g=>g,fun _ _ q=>q⟩
     simp only[bU,t0,t1,hs,hx,hi,aA.size,hb,hlen,hf,qf,hz,o7,xh,if_true,if_false,and_self,List.length_nil,Bool.false_eq_true,Nat.zero_mul]
   · obtain ⟨h',n,q1,q2,q3,q4,q5⟩:=SY hm
     have M9:¬m.length=0:=fun e=>hm (List.length_eq_zero_iff.1 e)
     refine ⟨_,h',?_,q1,q2,q3,q4,fun i w _ g=>q5 i w g,fun k hk _=>bJ.sl o!⟩
     simp only[bU,t0,t1,hs,hx,hi,aA.size,hb,hlen,hf,qf,hz,o7,xh,M9,XN m.length o!,n,if_true,if_false,and_self,Bool.false_eq_true]
 · rw[List.nil_append]
   by_cases hm:m=[]
   · subst hm
     simp only[List.length_nil,List.flatMap_nil,Nat.zero_mul] at hlen hf o7 xh
     obtain ⟨q1,q2,q3⟩:=xj hg
     refine ⟨_,_,?_,q1,Nat.le_refl _,q2,.inl ⟨.inr ⟨p,rfl,hp,q3 _ _ hg⟩,rfl⟩,fun i w _ g=>q3 i w g,fun _ _ q=>q⟩
     simp only[bU,t0,t1,hs,hx,hi,aA.size,hb,hlen,hf,qf,hz,o7,xh,hg,if_true,if_false,and_self,List.length_nil,Bool.false_eq_true,Nat.zero_mul,Nat.add_zero,Nat.le_refl,List.flatMap_nil,setFrom]
   · obtain ⟨h',n,q1,q2,q3,q4,q5⟩:=SY hm
     have M9:¬m.length≤0:=fun e=>hm (List.length_eq_zero_iff.1 o!)
     refine ⟨_,h',?_,q1,q2,q3,q4,fun i w _ g=>q5 i w g,fun k hk _=>bJ.sl o!⟩
     simp only[bU,t0,t1,hs,hx,hi,aA.size,hb,hlen,hf,qf,hz,o7,xh,hg,M9,if_true,if_false,and_self,Bool.false_eq_true,Nat.zero_mul,Nat.add_zero,Nat.zero_add,List.length_nil,Nat.le_refl]
     rw[if_pos ⟨XN m.length o!,trivial,fun e=>e.elim⟩]
     simp only[List.drop_nil,List.take_nil,List.nil_append,n]
 · have hlp:0<l.length:=List.length_pos_iff.2 hn
   have hpx:=y _ _ hg
   have QL:=ch aA.len l
   by_cases hm:m=[]
   · subst hm
     simp only[List.length_nil,List.flatMap_nil,Nat.zero_mul] at hlen hf o7 xh
     obtain ⟨q1,q2,q3⟩:=xj hg
     rw[List.append_nil]
     refine ⟨_,_,?_,q1,Nat.le_refl _,q2,.inr ⟨hn,p,op,rfl,hp,q3 _ _ hg⟩,fun i w _ g=>q3 i w g,fun _ _ q=>q⟩
     simp only[bU,t0,t1,hs,hx,hi,aA.size,hb,hlen,hf,qf,hz,o7,xh,hg,QL,if_true,if_false,and_self,List.length_nil,Bool.false_eq_true,Nat.zero_mul,Nat.add_zero,Nat.zero_add,Nat.le_refl,List.flatMap_nil,setFrom]
   · have hm0:0<m.length:=List.length_pos_iff.2 hm
     have y2:Tidy (if op then h.put p none else h):=by
      cases op with
      | false=>exact y
      | true=>
        intro i x g
        show i<h.nx
        by_cases hi:i=p
        · subst hi;exact hpx
        · rw[if_pos rfl,au.bA (Ne.symm hi)] at g;exact y i x g
     have n2:(if op then h.put p none else h).nx=h.nx:=by cases op<;>rfl
     have k2:∀i w,i≠p→h.get i=some w→(if op then h.put p none else h).get i=some w:=fun i w hi g=>by
      cases op with
      | false=>exact g
      | true=>rw[if_pos rfl,au.bA (Ne.symm hi)];exact g
     obtain ⟨h',n⟩:=kF (h:=if op then h.put p none else h) (.cells (l.flatMap aA.c++m.flatMap aA.c) (aA.e α) false)
     have hk:∀i w,i≠p→h.get i=some w→h'.get i=some w:=fun i w hi g=>eW y2 n (k2 i w hi g)
     have hc:¬l.length+m.length≤l.length:=by omega
     refine ⟨.slice h.nx 0 (l.length+m.length) (l.length+m.length) true,h',?_,fi y2 n,by rw[kE n,n2];omega,fun i w g=>?_,.inr ⟨by simp [hn],h.nx,true,by rw[List.length_append],hle,by rw[List.flatMap_append,←n2];exact iJ n⟩,fun i w q g=>hk i w (fun e=>q 0 l.length l.length op (by subst e;rfl)) g,fun k hk _=>bJ.sl o!⟩
     · simp only[bU,t0,t1,hs,hx,hi,aA.size,hb,hlen,hf,qf,hz,o7,xh,hg,hc,if_true,if_false,and_self,Bool.false_eq_true]
       rw[if_pos ⟨XN _ hl,by rw[QL];omega,fun _=>⟨trivial,by rw[QL];omega,trivial⟩⟩]
       rw[List.drop_zero,List.take_of_length_le (by rw[QL];exact Nat.le_refl _),n]
     · have:=y0 _ _ g
       exact hk i w o! (a i w g)
theorem bC.Jt {s xt:TypeId} {tys:Array TypeId} {bytes:Nat} {z0 x:AV} (y:Tidy h) (y0:Tidy h0) (a:Has h0 h) (hle:h0.nx≤h.nx) (o:bC h0 h z l) (hlen:kV x=some m.length) (hf:eR h (aA.n α) m.length x=some (m.flatMap aA.c)) (o7:(m.flatMap aA.c).all AV.scalar=true) (hl:l.length+m.length≤1000000000)
 (t0:tys[0]? =some s) (t1:tys[1]? =some xt) (hs:env.P.underlying s=some (.slice (aA.e α))) (hx:env.P.underlying xt=some (.slice (aA.e α))) (hb:fh env (aA.e α)=some bytes) (qf:eU env (aA.e α)=some z0) (hz:z0.cells.length=aA.n α) (h8:bytes≤255):
 ∃z' h',bU env h tys z x=some (z',h')∧Tidy h'∧h.nx≤h'.nx∧Has h0 h'∧bC h0 h' z' (l++m)∧(∀i w,bJ z i→h.get i=some w→h'.get i=some w)∧(∀k,k<h.nx→bJ z k→bJ z' k):=
 bC.ad5 y y0 a hle o hlen hf o7 hl t0 t1 hs hx hb qf hz fun k hk=>Nat.le_trans (Nat.mul_le_mul (show 4*k+4096≤4294967296 by omega) (show bytes+1≤256 by omega)) (by decide)
theorem bC.XP {b:Nat} {C:a_} (o:bC h0 h z l) (c:Chg h h' b C) (n:bJ z b):bC h0 h' z l:=by
 rcases o with ⟨rfl | ⟨p,rfl,h1,h2⟩,rfl⟩ | ⟨hn,p,op,rfl,hp,hg⟩
 · exact .inl ⟨.inl rfl,rfl⟩
 · exact .inl ⟨.inr ⟨p,rfl,h1,c.2.2 _ _ (fun q=>n 0 _ _ false (by subst q;rfl)) h2⟩,rfl⟩
 · exact .inr ⟨hn,p,op,rfl,hp,c.2.2 _ _ (fun q=>n 0 _ _ op (by subst q;rfl)) hg⟩
theorem bC.kept {b:Nat} (o:bC h0 h z l) (c:Kept b h h') (n:bJ z b):bC h0 h' z l:=by
 rcases o with ⟨rfl | ⟨p,rfl,h1,h2⟩,rfl⟩ | ⟨hn,p,op,rfl,hp,hg⟩
 · exact .inl ⟨.inl rfl,rfl⟩
 · exact .inl ⟨.inr ⟨p,rfl,h1,c _ _ (fun q=>n 0 _ _ false (by subst q;rfl)) h2⟩,rfl⟩
 · exact .inr ⟨hn,p,op,rfl,hp,c _ _ (fun q=>n 0 _ _ op (by subst q;rfl)) hg⟩
theorem bC.Pz (o:bC h0 h z l) {k:Nat} (hk:k<h0.nx):bJ z k:=by
 rcases o with ⟨rfl | ⟨p,rfl,h1,_⟩,rfl⟩ | ⟨_,p,op,rfl,hp,_⟩
 · exact fun _ _ _ _ e=>by cases e
 · exact fun _ _ _ _ e=>by have:=(AV.slice.inj e).1;omega
 · exact fun _ _ _ _ e=>by have:=(AV.slice.inj e).1;omega
theorem bJ.slice {p o n c:Nat} {b:Bool} {i:Nat} (h:p≠i):bJ (.slice p o n c b) i:=fun _ _ _ _ e=>h (AV.slice.inj e).1
theorem bC.s7 (y:Tidy h) (o:bC h0 h z l) {k:Nat} (hk:h.nx≤k):bJ z k:=by
 rcases o with ⟨rfl | ⟨p,rfl,h1,h2⟩,rfl⟩ | ⟨_,p,op,rfl,_,hg⟩
 · exact bJ.nil k
 · have:=y _ _ h2;exact bJ.sl o!
 · have:=y _ _ hg;exact bJ.sl o!
theorem bC.wo (o:bC h0 h w l) (ap:Co z w) (kp:∀i x,bJ z i→h.get i=some x→h'.get i=some x):bC h0 h' w l:=by
 rcases o with ⟨rfl | ⟨p,rfl,h1,h2⟩,rfl⟩ | ⟨hn,p,op,rfl,hp,hg⟩
 · exact .inl ⟨.inl rfl,rfl⟩
 · exact .inl ⟨.inr ⟨p,rfl,h1,kp _ _ ((ap p).resolve_right fun q=>q _ _ _ _ rfl) h2⟩,rfl⟩
 · exact .inr ⟨hn,p,op,rfl,hp,kp _ _ ((ap p).resolve_right fun q=>q _ _ _ _ rfl) hg⟩
end
section
variable {α:Type} [aA α] {h0 h h':au} {z z' w:AV} {l m:List α}
theorem bC.Jv {n:Nat} (o:bC h0 h z l) (v:AV.within h0.nx (n+1) z=true):bC h0 h0 z l:=by
 rcases o with ⟨rfl | ⟨p,rfl,h1,h2⟩,rfl⟩ | ⟨hn,p,op,rfl,hp,hg⟩
 · exact .inl ⟨.inl rfl,rfl⟩
 · have:=of_decide_eq_true (show decide (p<h0.nx)=true from v);omega
 · have:=of_decide_eq_true (show decide (p<h0.nx)=true from v);omega
theorem uh {nx k:Nat} {cs:List AV} (h:AV.within nx (k+1) (.tuple cs)=true) {x:AV} (hx:x∈cs):AV.within nx k x=true:=List.all_eq_true.1 h x hx
end
def dU {σ ζ:Type} (call:bw) (b:Code) (s:St) (ex:hZ) (hh:au) (tn:σ→ζ→(Nat→AV)→List AV) (Qn:σ→ζ→au→Prop) (v:σ):Prop:=
 ∃z y hk,Ev env call (.loop b) s ex ⟨tn v z y,hk,[],.no⟩∧Tidy hk∧hh.nx≤hk.nx∧Qn v z hk
section
variable {σ ζ:Type} {call:bw} {b:Code} {s:St} {ex:hZ} {hh hk:au} {tn:σ→ζ→(Nat→AV)→List AV} {Qn:σ→ζ→au→Prop}
theorem dU.out {i:Nat} {L:List AV} {o:σ} (v:σ) (z:ζ) (e:o=v) (ev:Ev env call b s (.exit i) ⟨L,hk,[],.no⟩) (y1:Tidy hk) (n1:hh.nx≤hk.nx) (q:Qn v z hk) (hl:L=tn v z fun k=>L.getD k AV.undef):dU call b s (.exit i) hh tn Qn o:=by
 subst e
 obtain ⟨y,x⟩:=AW (tmpl:=tn o z) (Ev.out ev) hl
 exact ⟨z,y,hk,x,y1,n1,q⟩
theorem dU.round {L:List AV} {o o':σ} (e:o=o') (ev:Ev env call b s .normal ⟨L,hk,[],.no⟩) (n1:hh.nx≤hk.nx) (uT:(Nat→AV)→List AV) (hl:L=uT fun k=>L.getD k AV.undef) (ih:∀x,dU call b ⟨uT x,hk,[],.no⟩ ex hk tn Qn o'):dU call b s ex hh tn Qn o:=by
 subst e
 have q:=ih fun k=>L.getD k AV.undef
 rw[←hl] at q
 obtain ⟨z,y,h2,x,y1,n2,g⟩:=q
 exact ⟨z,y,h2,Ev.loop ev x,y1,Nat.le_trans n1 n2,g⟩
end
def s9 {σ ζ:Type} (call:bw) (b:Code) (s:St) (ex:hZ) (hh:au) (tn:σ→ζ→(Nat→AV)→List AV) (Qn:σ→ζ→au→Prop) (tr:(Nat→AV)→List AV) (Rn:au→Prop) (v:Option σ):Prop:=
 match v with
 | some v=>dU call b s ex hh tn Qn v
 | none=>∃y hk,Ev env call (.loop b) s .ret ⟨tr y,hk,[],.no⟩∧Tidy hk∧hh.nx≤hk.nx∧Rn hk
section
variable {σ ζ:Type} {call:bw} {b:Code} {s:St} {ex:hZ} {hh hk:au} {tn:σ→ζ→(Nat→AV)→List AV} {Qn:σ→ζ→au→Prop} {tr:(Nat→AV)→List AV} {Rn:au→Prop}
theorem s9.out {i:Nat} {L:List AV} {o:Option σ} (v:σ) (z:ζ) (e:o=some v) (ev:Ev env call b s (.exit i) ⟨L,hk,[],.no⟩) (y1:Tidy hk) (n1:hh.nx≤hk.nx) (q:Qn v z hk) (hl:L=tn v z fun k=>L.getD k AV.undef):s9 call b s (.exit i) hh tn Qn tr Rn o:=by
 subst e;exact dU.out v z rfl ev y1 n1 q hl
theorem s9.ret {L:List AV} {o:Option σ} (e:o=none) (ev:Ev env call b s .ret ⟨L,hk,[],.no⟩) (y1:Tidy hk) (n1:hh.nx≤hk.nx) (q:Rn hk) (hl:L=tr fun k=>L.getD k AV.undef):s9 call b s ex hh tn Qn tr Rn o:=by
 subst e
 obtain ⟨y,x⟩:=AW (tmpl:=tr) (Ev.ret ev) hl
 exact ⟨y,hk,x,y1,n1,q⟩
theorem s9.round {L:List AV} {o o':Option σ} (e:o=o') (ev:Ev env call b s .normal ⟨L,hk,[],.no⟩) (n1:hh.nx≤hk.nx) (uT:(Nat→AV)→List AV) (hl:L=uT fun k=>L.getD k AV.undef) (ih:∀x,s9 call b ⟨uT x,hk,[],.no⟩ ex hk tn Qn tr Rn o'):s9 call b s ex hh tn Qn tr Rn o:=by
 subst e
 have q:=ih fun k=>L.getD k AV.undef
 rw[←hl] at q
 cases o with
 | some v=>
   obtain ⟨z,y,h2,x,y1,n2,g⟩:=q
   exact ⟨z,y,h2,Ev.loop ev x,y1,Nat.le_trans n1 n2,g⟩
 | none=>
   obtain ⟨y,h2,x,y1,n2,g⟩:=q
   exact ⟨y,h2,Ev.loop ev x,y1,Nat.le_trans n1 n2,g⟩
end
theorem dU.S_ {σ ζ:Type} {call:bw} {b:Code} {s:St} {ex:hZ} {hh:au} {tn:σ→ζ→(Nat→AV)→List AV} {Qn Qn':σ→ζ→au→Prop} {v:σ} (l:dU call b s ex hh tn Qn v) (w:∀z hk,hh.nx≤hk.nx→Qn v z hk→Qn' v z hk):dU call b s ex hh tn Qn' v:=by
 obtain ⟨z,y,hk,a,b1,c,q⟩:=l
 exact ⟨z,y,hk,a,b1,c,w z hk c q⟩
def s_ (rc:RC) {σ ζ:Type} (call:bw) (b:Code) (s:St) (ex:hZ) (hh:au) (tn:σ→ζ→(Nat→AV)→List AV) (Qn:σ→ζ→au→Prop) (v:σ):Prop:=
 ∃z y hk,Ev env call (.loop b) s ex ⟨tn v z y,hk,[],rc⟩∧Tidy hk∧hh.nx≤hk.nx∧Qn v z hk
section
variable {rc:RC} {σ ζ:Type} {call:bw} {b:Code} {s:St} {ex:hZ} {hh hk:au} {tn:σ→ζ→(Nat→AV)→List AV} {Qn:σ→ζ→au→Prop}
theorem s_.out {i:Nat} {L:List AV} {o:σ} (v:σ) (z:ζ) (e:o=v) (ev:Ev env call b s (.exit i) ⟨L,hk,[],rc⟩) (y1:Tidy hk) (n1:hh.nx≤hk.nx) (q:Qn v z hk) (hl:L=tn v z fun k=>L.getD k AV.undef):s_ rc call b s (.exit i) hh tn Qn o:=by
 subst e
 refine ⟨z,fun k=>L.getD k AV.undef,hk,?_,y1,n1,q⟩
 rw[←hl];exact Ev.out ev
theorem s_.round {L:List AV} {o o':σ} (e:o=o') (ev:Ev env call b s .normal ⟨L,hk,[],rc⟩) (n1:hh.nx≤hk.nx) (uT:(Nat→AV)→List AV) (hl:L=uT fun k=>L.getD k AV.undef) (ih:∀x,s_ rc call b ⟨uT x,hk,[],rc⟩ ex hk tn Qn o'):s_ rc call b s ex hh tn Qn o:=by
 subst e
 have q:=ih fun k=>L.getD k AV.undef
 rw[←hl] at q
 obtain ⟨z,y,h2,x,y1,n2,g⟩:=q
 exact ⟨z,y,h2,Ev.loop ev x,y1,Nat.le_trans n1 n2,g⟩
end
theorem XQ (rc:RC) (d:Nat) (c:Code) (ts:List AV) (h:au) (e:hZ) (h':au) {al:List mI} {ps:List Prop} (k:Pk al [] ps) (hr:run env (cW d) 300 c ⟨ts,h,[],rc⟩ al []= .at e ⟨uS (run env (cW d) 300 c ⟨ts,h,[],rc⟩ al []),h',[],rc⟩ [] ps):Ev env (cW d) c ⟨ts,h,[],rc⟩ e ⟨uS (run env (cW d) 300 c ⟨ts,h,[],rc⟩ al []),h',[],rc⟩:=pk_ d c ts h [] rc e h' k hr
theorem bC.GW {α:Type} [aA α] {h0 h:au} {v:AV} {l:List α} (o:bC h0 h v l) (x:aZ h v l) {t:TypeId} (ht:env.P.underlying t=some (.slice (aA.e α))) {i:Nat} (hi:i≤l.length):∃r,dw env t v none (some (.int .i64 ((i:Nat):Int))) none=some r∧aZ h r (l.take i):=by
 by_cases ke:i<l.length
 · exact x.pre ht ke
 · have e:i=l.length:=by omega
   subst e
   refine ⟨v,?_,by rw[List.take_length];exact x⟩
   have sz:=x.at_.size
   rcases o with ⟨w,rfl⟩ | ⟨hn,p,op,rfl,hp,hg⟩
   · rcases w with rfl | ⟨p,rfl,_,_⟩
     · simp only[dw,ht,sz];rfl
     · simp only[dw,ht,sz];rfl
   · have hl:0<l.length:=by
      cases l with
      | nil=>exact absurd rfl hn
      | cons a l=>exact Nat.succ_pos _
     simp only[dw,ht,sz,Nat.le_refl,if_true,nW (len:=l.length) (cap:=l.length) none (some (.int .i64 ((l.length:Nat):Int))) (.inr ⟨rfl,rfl⟩) (.inl rfl) (Nat.zero_le _) (Nat.le_refl _)]
     rw[if_neg o!]
     simp
theorem bC.ad6 {α:Type} [aA α] {h0 h:au} {v:AV} {l:List α} (o:bC h0 h v l) (x:aZ h v l) {t:TypeId} (ht:env.P.underlying t=some (.slice (aA.e α))) {i:Nat} (hi:i≤l.length):∃r,dw env t v (some (.int .i64 ((i:Nat):Int))) none none=some r∧aZ h r (l.drop i):=by
 by_cases ke:0<l.length
 · exact x.suf ht ke hi
 · have e:l=[]:=List.eq_nil_of_length_eq_zero o!
   subst e
   have e:i=0:=by simpa using hi
   subst e
   refine ⟨v,?_,x⟩
   have sz:=x.at_.size
   rcases o with ⟨w,_⟩ | ⟨hn,p,op,rfl,hp,hg⟩
   · rcases w with rfl | ⟨p,rfl,_,_⟩
     · simp only[dw,ht,sz];rfl
     · simp only[dw,ht,sz];rfl
   · exact absurd rfl hn
def Ag:Code:=(Try.f36.body).getD .skip
theorem qi:Try.f36.body=some Ag:=by kernel_rfl
def LJ:Code:=(cC Ag).getD 0 .skip
def cR (s:List UInt8):Nat→Nat→Option (Bool)
 | 0,_=>none
 | d_+1,i0=>(bif (decide ((((s.g i0).toNat:Nat):Int)<97)) then (bif (decide ((((s.g i0).toNat:Nat):Int)<48)) then (bif (!decide ((((s.g i0).toNat:Nat):Int)=45)) then some false else cR s d_ (i0+1)) else (bif (decide (57<(((s.g i0).toNat:Nat):Int))) then (bif (!decide ((((s.g i0).toNat:Nat):Int)=45)) then some false else cR s d_ (i0+1)) else cR s d_ (i0+1))) else (bif (decide (122<(((s.g i0).toNat:Nat):Int))) then (bif (decide ((((s.g i0).toNat:Nat):Int)<48)) then (bif (!decide ((((s.g i0).toNat:Nat):Int)=45)) then some false else cR s d_ (i0+1)) else (bif (decide (57<(((s.g i0).toNat:Nat):Int))) then (bif (!decide ((((s.g i0).toNat:Nat):Int)=45)) then some false else cR s d_ (i0+1)) else cR s d_ (i0+1))) else cR s d_ (i0+1)))
theorem iA {d:Nat} {h:au} (s:List UInt8) (cD:s.length<2^60):∀(k_ i_:Nat) (_:i_+k_=(List.length s)) (x:Nat→AV) (hh:au) (aN:Tidy hh) (bj:Has h hh),aW (cW (d)) LJ ⟨((AV.str s)::(x 1)::(x 2)::(Zn i_)::rx x 4 46 []),hh,[],.no⟩ (.exit 0) hh (fun y=>((AV.str s)::rx y 1 49 [])) (fun r y=>((AV.str s)::(y 1)::(AV.bool r)::rx y 3 47 [])) (cR s k_ i_)
 | 0,i0,kY,x,hh,aN,bj=>by
   have sn1:s.length<2^60:=cD
   have q2:(decide (((i0:Nat):Int)<((List.length s:Nat):Int)))=false:=d!
   exact aW.out rfl (pk (d) _ _ hh _ hh (CN 3<|VV (bZ 3 false false .i64 ((i0:Nat):Int) ((List.length s:Nat):Int))<|BB q2<|ZZ) k!) (Grow.refl aN) k!
 | d_+1,i0,kY,x,hh,aN,bj=>by
   have sn1:s.length<2^60:=cD
   have q2:(decide (((i0:Nat):Int)<((List.length s:Nat):Int)))=true:=d!
   have DP:qZ env (some .string) (some (AV.str s)) (some (Zn i0))=some (AV.int .u8 (((s.g i0).toNat:Nat):Int)):=jS (j:=i0) o!
   have za:=fun {al ps} (k:Pk al _ ps)=>(CN 3<|VV (bZ 3 false false .i64 ((i0:Nat):Int) ((List.length s:Nat):Int))<|BB q2<|CN 2<|VV DP<|CN 2<|k:Pk _ [] ps)
   rcases Bool.eq_false_or_eq_true (decide ((((s.g i0).toNat:Nat):Int)<97)) with f1 | f1
   · have jg:=of_decide_eq_true f1
     rcases Bool.eq_false_or_eq_true (decide ((((s.g i0).toNat:Nat):Int)<48)) with f2 | f2
     · have nr:=of_decide_eq_true f2
       have HZ:=fun {al ps} (k:Pk al _ ps)=>(za<|VV (bZ 5 false true .u8 (((s.g i0).toNat:Nat):Int) 97)<|CC<|BB f1<|BV f1 (pa true f1)<|CC<|TT<|CC<|TT<|VV (bZ 5 false true .u8 (((s.g i0).toNat:Nat):Int) 48)<|TT<|CC<|BB f2<|BB f2<|TT<|VV (pa true f2)<|CN 2<|TT<|CC<|TT<|VV (jw 5 false true .u8 (((s.g i0).toNat:Nat):Int) 45)<|CC<|k:Pk _ [] ps)
       rcases Bool.eq_false_or_eq_true (!decide ((((s.g i0).toNat:Nat):Int)=45)) with f3 | f3
       · have jy:=EM f3
         exact aW.ret false (by simp only[cR,f1,f2,f3,ao,ai]) (pk (d) _ _ hh _ hh (HZ<|BC f3<|ZZ) k!) (Grow.refl aN) k!
       · have jy:=EN f3
         have u7:=fj 3 false true i0 1 o!
         exact aW.round (by simp only[cR,f1,f2,f3,ao,ai]) (pk (d) _ _ hh _ hh (HZ<|BC f3<|VV u7<|CC<|ZZ) k!) (Grow.refl aN) _ k! (fun x=>iA s cD d_ (i0+1) o! x hh aN bj)
     · have nr:=of_decide_eq_false f2
       rcases Bool.eq_false_or_eq_true (decide (57<(((s.g i0).toNat:Nat):Int))) with f3 | f3
       · have jy:=of_decide_eq_true f3
         rcases Bool.eq_false_or_eq_true (!decide ((((s.g i0).toNat:Nat):Int)=45)) with f4 | f4
         · have km:=EM f4
           exact aW.ret false (by simp only[cR,f1,f2,f3,f4,ao,ai]) (pk (d) _ _ hh _ hh (za<|VV (bZ 5 false true .u8 (((s.g i0).toNat:Nat):Int) 97)<|CC<|BB f1<|BV f1 (pa true f1)<|CC<|TT<|CC<|TT<|VV (bZ 5 false true .u8 (((s.g i0).toNat:Nat):Int) 48)<|TT<|CC<|BC f2<|BV f2 (cg 5 false true .u8 (((s.g i0).toNat:Nat):Int) 57)<|TT<|VV (ba (a:=some (AV.bool true)) (b:=some (AV.bool (decide (57<(((s.g i0).toNat:Nat):Int))))) f2)<|CN 2<|BC f3<|BV f3 (jw 5 false true .u8 (((s.g i0).toNat:Nat):Int) 45)<|VV (pG (!decide ((((s.g i0).toNat:Nat):Int)=45)) false f3)<|BC f4<|ZZ) k!) (Grow.refl aN) k!
         · have km:=EN f4
           have u8:=fj 3 false true i0 1 o!
           exact aW.round (by simp only[cR,f1,f2,f3,f4,ao,ai]) (pk (d) _ _ hh _ hh (za<|VV (bZ 5 false true .u8 (((s.g i0).toNat:Nat):Int) 97)<|CC<|BB f1<|BV f1 (pa true f1)<|CC<|TT<|CC<|TT<|VV (bZ 5 false true .u8 (((s.g i0).toNat:Nat):Int) 48)<|TT<|CC<|BC f2<|BV f2 (cg 5 false true .u8 (((s.g i0).toNat:Nat):Int) 57)<|TT<|VV (ba (a:=some (AV.bool true)) (b:=some (AV.bool (decide (57<(((s.g i0).toNat:Nat):Int))))) f2)<|CN 2<|BC f3<|BV f3 (jw 5 false true .u8 (((s.g i0).toNat:Nat):Int) 45)<|VV (pG (!decide ((((s.g i0).toNat:Nat):Int)=45)) false f3)<|BC f4<|VV u8<|CC<|ZZ) k!) (Grow.refl aN) _ k! (fun x=>iA s cD d_ (i0+1) o! x hh aN bj)
       · have jy:=of_decide_eq_false f3
         have u7:=fj 3 false true i0 1 o!
         exact aW.round (by simp only[cR,f1,f2,f3,ao,ai]) (pk (d) _ _ hh _ hh (za<|VV (bZ 5 false true .u8 (((s.g i0).toNat:Nat):Int) 97)<|CC<|BB f1<|BV f1 (pa true f1)<|CC<|TT<|CC<|TT<|VV (bZ 5 false true .u8 (((s.g i0).toNat:Nat):Int) 48)<|TT<|CC<|BC f2<|BV f2 (cg 5 false true .u8 (((s.g i0).toNat:Nat):Int) 57)<|TT<|VV (ba (a:=some (AV.bool true)) (b:=some (AV.bool (decide (57<(((s.g i0).toNat:Nat):Int))))) f2)<|CN 2<|BB f3<|BV f3 (vG false f3)<|FF<|CC<|VV u7<|CC<|ZZ) k!) (Grow.refl aN) _ k! (fun x=>iA s cD d_ (i0+1) o! x hh aN bj)
   · have jg:=of_decide_eq_false f1
     rcases Bool.eq_false_or_eq_true (decide (122<(((s.g i0).toNat:Nat):Int))) with f2 | f2
     · have nr:=of_decide_eq_true f2
       rcases Bool.eq_false_or_eq_true (decide ((((s.g i0).toNat:Nat):Int)<48)) with f3 | f3
       · have jy:=of_decide_eq_true f3
         rcases Bool.eq_false_or_eq_true (!decide ((((s.g i0).toNat:Nat):Int)=45)) with f4 | f4
         · have km:=EM f4
           exact aW.ret false (by simp only[cR,f1,f2,f3,f4,ao,ai]) (pk (d) _ _ hh _ hh (za<|VV (bZ 5 false true .u8 (((s.g i0).toNat:Nat):Int) 97)<|CC<|BC f1<|BV f1 (cg 5 false true .u8 (((s.g i0).toNat:Nat):Int) 122)<|VV (ba (a:=some (AV.bool true)) (b:=some (AV.bool (decide (122<(((s.g i0).toNat:Nat):Int))))) f1)<|CC<|BC f2<|BV f2 (bZ 5 false true .u8 (((s.g i0).toNat:Nat):Int) 48)<|BC f2<|BB f3<|BB f3<|BV f2 (pa true f3)<|VV (pG true false f2)<|CC<|TT<|CC<|TT<|VV (jw 5 false true .u8 (((s.g i0).toNat:Nat):Int) 45)<|CC<|BC f4<|ZZ) k!) (Grow.refl aN) k!
         · have km:=EN f4
           have u8:=fj 3 false true i0 1 o!
           exact aW.round (by simp only[cR,f1,f2,f3,f4,ao,ai]) (pk (d) _ _ hh _ hh (za<|VV (bZ 5 false true .u8 (((s.g i0).toNat:Nat):Int) 97)<|CC<|BC f1<|BV f1 (cg 5 false true .u8 (((s.g i0).toNat:Nat):Int) 122)<|VV (ba (a:=some (AV.bool true)) (b:=some (AV.bool (decide (122<(((s.g i0).toNat:Nat):Int))))) f1)<|CC<|BC f2<|BV f2 (bZ 5 false true .u8 (((s.g i0).toNat:Nat):Int) 48)<|BC f2<|BB f3<|BB f3<|BV f2 (pa true f3)<|VV (pG true false f2)<|CC<|TT<|CC<|TT<|VV (jw 5 false true .u8 (((s.g i0).toNat:Nat):Int) 45)<|CC<|BC f4<|VV u8<|CC<|ZZ) k!) (Grow.refl aN) _ k! (fun x=>iA s cD d_ (i0+1) o! x hh aN bj)
       · have jy:=of_decide_eq_false f3
         rcases Bool.eq_false_or_eq_true (decide (57<(((s.g i0).toNat:Nat):Int))) with f4 | f4
         · have km:=of_decide_eq_true f4
           have Jw:=fun {al ps} (k:Pk al _ ps)=>(za<|VV (bZ 5 false true .u8 (((s.g i0).toNat:Nat):Int) 97)<|CC<|BC f1<|BV f1 (cg 5 false true .u8 (((s.g i0).toNat:Nat):Int) 122)<|VV (ba (a:=some (AV.bool true)) (b:=some (AV.bool (decide (122<(((s.g i0).toNat:Nat):Int))))) f1)<|CC<|BC f2<|BV f2 (bZ 5 false true .u8 (((s.g i0).toNat:Nat):Int) 48)<|BC f2<|BC f3<|BV f3 (cg 5 false true .u8 (((s.g i0).toNat:Nat):Int) 57)<|BV f2 (ba (a:=some (AV.bool true)) (b:=some (AV.bool (decide (57<(((s.g i0).toNat:Nat):Int))))) f3)<|VV (pG (decide (57<(((s.g i0).toNat:Nat):Int))) false f2)<|CC<|BC f4<|BV f4 (jw 5 false true .u8 (((s.g i0).toNat:Nat):Int) 45)<|VV (pG (!decide ((((s.g i0).toNat:Nat):Int)=45)) false f4)<|k:Pk _ [] ps)
           rcases Bool.eq_false_or_eq_true (!decide ((((s.g i0).toNat:Nat):Int)=45)) with f5 | f5
           · have zb:=EM f5
             exact aW.ret false (by simp only[cR,f1,f2,f3,f4,f5,ao,ai]) (pk (d) _ _ hh _ hh (Jw<|BC f5<|ZZ) k!) (Grow.refl aN) k!
           · have zb:=EN f5
             have u9:=fj 3 false true i0 1 o!
             exact aW.round (by simp only[cR,f1,f2,f3,f4,f5,ao,ai]) (pk (d) _ _ hh _ hh (Jw<|BC f5<|VV u9<|CC<|ZZ) k!) (Grow.refl aN) _ k! (fun x=>iA s cD d_ (i0+1) o! x hh aN bj)
         · have km:=of_decide_eq_false f4
           have u8:=fj 3 false true i0 1 o!
           exact aW.round (by simp only[cR,f1,f2,f3,f4,ao,ai]) (pk (d) _ _ hh _ hh (za<|VV (bZ 5 false true .u8 (((s.g i0).toNat:Nat):Int) 97)<|CC<|BC f1<|BV f1 (cg 5 false true .u8 (((s.g i0).toNat:Nat):Int) 122)<|VV (ba (a:=some (AV.bool true)) (b:=some (AV.bool (decide (122<(((s.g i0).toNat:Nat):Int))))) f1)<|CC<|BC f2<|BV f2 (bZ 5 false true .u8 (((s.g i0).toNat:Nat):Int) 48)<|BC f2<|BC f3<|BV f3 (cg 5 false true .u8 (((s.g i0).toNat:Nat):Int) 57)<|BV f2 (ba (a:=some (AV.bool true)) (b:=some (AV.bool (decide (57<(((s.g i0).toNat:Nat):Int))))) f3)<|VV (pG (decide (57<(((s.g i0).toNat:Nat):Int))) false f2)<|CC<|BB f4<|BV f4 (vG false f4)<|FF<|CC<|VV u8<|CC<|ZZ) k!) (Grow.refl aN) _ k! (fun x=>iA s cD d_ (i0+1) o! x hh aN bj)
     · have nr:=of_decide_eq_false f2
       have u6:=fj 3 false true i0 1 o!
       exact aW.round (by simp only[cR,f1,f2,ao,ai]) (pk (d) _ _ hh _ hh (za<|VV (bZ 5 false true .u8 (((s.g i0).toNat:Nat):Int) 97)<|CC<|BC f1<|BV f1 (cg 5 false true .u8 (((s.g i0).toNat:Nat):Int) 122)<|VV (ba (a:=some (AV.bool true)) (b:=some (AV.bool (decide (122<(((s.g i0).toNat:Nat):Int))))) f1)<|CC<|BB f2<|BB f2<|BB f2<|BV f2 (vG false f2)<|CC<|FF<|FF<|CC<|FF<|CC<|VV u6<|CC<|ZZ) k!) (Grow.refl aN) _ k! (fun x=>iA s cD d_ (i0+1) o! x hh aN bj)
def dI (s:List UInt8):Bool:=(bif (decide (((List.length s:Nat):Int)=0)) then false else (bif (decide (16<((List.length s:Nat):Int))) then false else (bif (decide ((((s.g 0).toNat:Nat):Int)<97)) then false else (bif (decide (122<(((s.g 0).toNat:Nat):Int))) then false else (match (cR s (List.length s) 0) with | none=>true | some rr8=>rr8)))))
theorem Jx {d:Nat} {h:au} (s:List UInt8) (Cp:s.length<2^60) (bY:Tidy h):cW (d+1) (.fn 36) [(AV.str s)] h= .ret (AV.bool (dI s)) h:=by
 have sn1:s.length<2^60:=Cp
 have Jy:=fun {al ps} (k:Pk al _ ps)=>(CN 3<|VV (o_ 3 false true .i64 ((List.length s:Nat):Int) 0)<|CC<|k:Pk _ [] ps)
 rcases Bool.eq_false_or_eq_true (decide (((List.length s:Nat):Int)=0)) with f0 | f0
 · have j8:=of_decide_eq_true f0
   have e:dI s=false:=by simp only[dI,f0,ao,ai]
   rw[e]
   exact aC rfl (bx Try.func36 qi rfl (.inr rfl) (pk (d) _ _ h _ h (Jy<|BB f0<|BB f0<|BV f0 (pa true f0)<|CC<|TT<|TT<|TT<|CN 2<|TT<|TT<|TT<|CC<|TT<|CC<|ZZ) k!) k!) (Has.refl _) rfl
 · have j8:=of_decide_eq_false f0
   have DQ:=fun {al ps} (k:Pk al _ ps)=>(Jy<|BC f0<|BC f0<|BV f0 (cg 3 false true .i64 ((List.length s:Nat):Int) 16)<|k:Pk _ [] ps)
   rcases Bool.eq_false_or_eq_true (decide (16<((List.length s:Nat):Int))) with f1 | f1
   · have jg:=of_decide_eq_true f1
     have e:dI s=false:=by simp only[dI,f0,f1,ao,ai]
     rw[e]
     exact aC rfl (bx Try.func36 qi rfl (.inr rfl) (pk (d) _ _ h _ h (DQ<|VV (ba (a:=some (AV.bool true)) (b:=some (AV.bool (decide (16<((List.length s:Nat):Int))))) f0)<|CC<|BB f1<|BB f1<|BV f1 (pa true f1)<|CC<|TT<|TT<|TT<|CC<|TT<|CC<|ZZ) k!) k!) (Has.refl _) rfl
   · have jg:=of_decide_eq_false f1
     have QR:qZ env (some .string) (some (AV.str s)) (some (Zi 0))=some (AV.int .u8 (((s.g 0).toNat:Nat):Int)):=jS (j:=0) o!
     rcases Bool.eq_false_or_eq_true (decide ((((s.g 0).toNat:Nat):Int)<97)) with f2 | f2
     · have nr:=of_decide_eq_true f2
       have e:dI s=false:=by simp only[dI,f0,f1,f2,ao,ai]
       rw[e]
       exact aC rfl (bx Try.func36 qi rfl (.inr rfl) (pk (d) _ _ h _ h (DQ<|VV (ba (a:=some (AV.bool true)) (b:=some (AV.bool (decide (16<((List.length s:Nat):Int))))) f0)<|CC<|BC f1<|BV f1 QR<|BV f1 (bZ 5 false true .u8 (((s.g 0).toNat:Nat):Int) 97)<|VV (ba (a:=some (AV.bool true)) (b:=some (AV.bool (decide ((((s.g 0).toNat:Nat):Int)<97)))) f1)<|CC<|BB f2<|BB f2<|BV f2 (pa true f2)<|TT<|CC<|ZZ) k!) k!) (Has.refl _) rfl
     · have nr:=of_decide_eq_false f2
       have LK:qZ env (some .string) (some (AV.str s)) (some (Zi 0))=some (AV.int .u8 (((s.g 0).toNat:Nat):Int)):=jS (j:=0) o!
       rcases Bool.eq_false_or_eq_true (decide (122<(((s.g 0).toNat:Nat):Int))) with f3 | f3
       · have jy:=of_decide_eq_true f3
         have e:dI s=false:=by simp only[dI,f0,f1,f2,f3,ao,ai]
         rw[e]
         exact aC rfl (bx Try.func36 qi rfl (.inr rfl) (pk (d) _ _ h _ h (DQ<|VV (ba (a:=some (AV.bool true)) (b:=some (AV.bool (decide (16<((List.length s:Nat):Int))))) f0)<|CC<|BC f1<|BV f1 QR<|BV f1 (bZ 5 false true .u8 (((s.g 0).toNat:Nat):Int) 97)<|VV (ba (a:=some (AV.bool true)) (b:=some (AV.bool (decide ((((s.g 0).toNat:Nat):Int)<97)))) f1)<|CC<|BC f2<|BV f2 LK<|BV f2 (cg 5 false true .u8 (((s.g 0).toNat:Nat):Int) 122)<|VV (ba (a:=some (AV.bool true)) (b:=some (AV.bool (decide (122<(((s.g 0).toNat:Nat):Int))))) f2)<|BC f3<|ZZ) k!) k!) (Has.refl _) rfl
       · have jy:=of_decide_eq_false f3
         have lp6:=iA (d:=d) (h:=h) s Cp (List.length s) 0 o! (fun k_=>(((AV.str s)::AV.undef::(AV.bool false)::(Zi 0)::AV.undef::(AV.str s)::(Zn (List.length s))::(AV.bool (decide (((List.length s:Nat):Int)=0)))::(AV.bool (decide (((List.length s:Nat):Int)=0)))::(AV.str s)::(Zn (List.length s))::(AV.bool (decide (16<((List.length s:Nat):Int))))::(AV.bool (decide (16<((List.length s:Nat):Int))))::(AV.bool (decide (16<((List.length s:Nat):Int))))::(AV.str s)::(AV.int .u8 (((s.g 0).toNat:Nat):Int))::(AV.bool (decide ((((s.g 0).toNat:Nat):Int)<97)))::(AV.bool (decide ((((s.g 0).toNat:Nat):Int)<97)))::(AV.bool (decide ((((s.g 0).toNat:Nat):Int)<97)))::(AV.str s)::(AV.int .u8 (((s.g 0).toNat:Nat):Int))::(AV.bool (decide (122<(((s.g 0).toNat:Nat):Int))))::(AV.bool (decide (122<(((s.g 0).toNat:Nat):Int))))::kX 27):List AV).getD k_ AV.undef) h bY (Has.refl _)
         cases ri:cR s (List.length s) 0 with
         | none=>
           obtain ⟨yl8,h9,vJ,rY⟩:=aW.n ri lp6
           have AY:=rY.y
           have aa9:h.nx≤h9.nx:=rY.n
           have DS:Has h h9:=rY.a
           have e:dI s=true:=by simp only[dI,f0,f1,f2,f3,ri,ao,ai]
           rw[e]
           exact aC rfl (bx Try.func36 qi rfl (.inr rfl) (pk (d) _ _ h _ h9 (DQ<|VV (ba (a:=some (AV.bool true)) (b:=some (AV.bool (decide (16<((List.length s:Nat):Int))))) f0)<|CC<|BC f1<|BV f1 QR<|BV f1 (bZ 5 false true .u8 (((s.g 0).toNat:Nat):Int) 97)<|VV (ba (a:=some (AV.bool true)) (b:=some (AV.bool (decide ((((s.g 0).toNat:Nat):Int)<97)))) f1)<|CC<|BC f2<|BV f2 LK<|BV f2 (cg 5 false true .u8 (((s.g 0).toNat:Nat):Int) 122)<|VV (ba (a:=some (AV.bool true)) (b:=some (AV.bool (decide (122<(((s.g 0).toNat:Nat):Int))))) f2)<|BC f3<|LL vJ<|CC<|ZZ) k!) k!) DS rfl
         | some rr8=>
           obtain ⟨yl8,h9,vJ,rY⟩:=aW.r ri lp6
           have AY:=rY.y
           have aa9:h.nx≤h9.nx:=rY.n
           have DS:Has h h9:=rY.a
           have e:dI s=rr8:=by simp only[dI,f0,f1,f2,f3,ri,ao,ai]
           rw[e]
           exact aC rfl (bx Try.func36 qi rfl (.inr rfl) (pk (d) _ _ h _ h9 (DQ<|VV (ba (a:=some (AV.bool true)) (b:=some (AV.bool (decide (16<((List.length s:Nat):Int))))) f0)<|CC<|BC f1<|BV f1 QR<|BV f1 (bZ 5 false true .u8 (((s.g 0).toNat:Nat):Int) 97)<|VV (ba (a:=some (AV.bool true)) (b:=some (AV.bool (decide ((((s.g 0).toNat:Nat):Int)<97)))) f1)<|CC<|BC f2<|BV f2 LK<|BV f2 (cg 5 false true .u8 (((s.g 0).toNat:Nat):Int) 122)<|VV (ba (a:=some (AV.bool true)) (b:=some (AV.bool (decide (122<(((s.g 0).toNat:Nat):Int))))) f2)<|BC f3<|LL vJ<|ZZ) k!) k!) DS rfl
def G6:Code:=(Try.f37.body).getD .skip
theorem ES:Try.f37.body=some G6:=by kernel_rfl
def cK (n:Int):Bool:=(bif (decide ((-1000000000)≤n)) then (decide (n≤1000000000)) else false)
theorem ET {d:Nat} {h:au} (n:Int) (bY:Tidy h):cW (d+1) (.fn 37) [(Zi n)] h= .ret (AV.bool (cK n)) h:=by
 rcases Bool.eq_false_or_eq_true (decide ((-1000000000)≤n)) with f0 | f0
 · have j8:=of_decide_eq_true f0
   have e:cK n=(decide (n≤1000000000)):=by simp only[cK,f0,ao,ai]
   rw[e]
   exact aC rfl (bx Try.func37 ES rfl (.inr rfl) (pk (d) _ _ h _ h (CN 2<|VV (qh 3 false true .i64 n (-1000000000))<|CC<|BC f0<|BV f0 (qg 3 false true .i64 n 1000000000)<|VV (pG (decide (n≤1000000000)) false f0)<|CC<|ZZ) k!) k!) (Has.refl _) rfl
 · have j8:=of_decide_eq_false f0
   have e:cK n=false:=by simp only[cK,f0,ao,ai]
   rw[e]
   exact aC rfl (bx Try.func37 ES rfl (.inr rfl) (pk (d) _ _ h _ h (CN 2<|VV (qh 3 false true .i64 n (-1000000000))<|CC<|BB f0<|BV f0 (vG false f0)<|CC<|ZZ) k!) k!) (Has.refl _) rfl
end
end Go.Proofs.aH
