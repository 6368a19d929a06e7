import Derived.Test.YtfllahfbmaafcaaW0
namespace Go.Proofs.aG
open Go.Proofs Ab
noncomputable section
set_option maxRecDepth 100000
set_option maxHeartbeats 4000000
set_option linter.unusedVariables false
set_option linter.unusedSimpArgs false
def O1:Code:=(Try.f19.body).getD .skip
theorem aaz:Try.f19.body=some O1:=by kernel_rfl
def cA (x_:List Int) (t:Int):Int:=(x_.g (rJ t ((x_.length - 1:Nat):Int)).toNat)
theorem Gl {d:Nat} {h:aw} {tW:AV} (x_:List Int) (t:Int) (KZ:gW h .i64 3 tW x_) (qV:0<x_.length) (IN:0≤t) (ch:Tidy h):dh (d+1) (.fn 19) [tW,(Zi t)] h= .ret (Zi (cA x_ t)) h:=by
 have aaA:=KZ.small
 have im_:0≤rJ t ((x_.length - 1:Nat):Int)∧rJ t ((x_.length - 1:Nat):Int)≤((x_.length - 1:Nat):Int):=by unfold rJ;split<;>omega
 have rA:dN (some (.slice 3)) (some tW)=some (Zn x_.length):=KZ.len
 have u2:=Gj 3 false true x_.length 1 o! o!
 obtain ⟨p4,q5,rK,_⟩:=KZ.elem (i:=(rJ t ((x_.length - 1:Nat):Int)).toNat) o!
 have w_:dy env (some (.slice 3)) (some tW) (some (Zi (rJ t ((x_.length - 1:Nat):Int))))=some (AV.ptr p4 q5):=by rw[show ((rJ t ((x_.length - 1:Nat):Int)):Int)=(((rJ t ((x_.length - 1:Nat):Int)).toNat:Nat):Int) by omega];exact rK
 have Gm:bE env h 3 (AV.ptr p4 q5)=some (Zi (x_.g (rJ t ((x_.length - 1:Nat):Int)).toNat)):=KZ.load o! rK
 have e:cA x_ t=(x_.g (rJ t ((x_.length - 1:Nat):Int)).toNat):=by simp only[cA,ak,ah]
 rw[e]
 exact aC rfl (bh Try.func19 aaz rfl (.inr rfl) (pk (d) _ _ h _ h (CN 4<|VV rA<|VV u2<|CC<|VV w_<|MM Gm<|CC<|ZZ) k!) k!) (Has.refl _) rfl
theorem aP.suf {α:Type} [aA α] {h:aw} {v:AV} {l:List α} (x:aP h v l) {t:TypeId} (ht:env.P.underlying t=some (.slice (aA.e α))) {i:Nat} (h0:0<l.length) (hi:i≤l.length):∃r,dx env t v (some (.int .i64 ((i:Nat):Int))) none none=some r∧aP h r (l.drop i):=by
 rcases x.at_.block with h1 | ⟨p,o,m,c,b,C,f,ro,h1,hc,h2,h3⟩
 · omega
 · subst h1
   have hm:m=l.length:=by
    have:=x.at_.lens
    rw[fR] at this
    simp only[Option.some.injEq,AV.int.injEq,true_and] at this
    omega
   subst hm
   have bo:=nH (len:=l.length) (cap:=c) (some (.int .i64 ((i:Nat):Int))) none (.inl rfl) (.inr ⟨rfl,rfl⟩) hi hc
   have U6:=x.small
   have hd:(l.drop i).length<2^60:=by rw[List.length_drop];omega
   have fl:((l.drop i).flatMap aA.c).length=(l.drop i).length*aA.n α:=b7 aA.len _
   have ok:∀y∈l.drop i,aA.ok h y:=fun y hy=>x.Gk y (List.mem_of_mem_drop hy)
   by_cases e:c=i
   · subst e
     have hz:l.drop c=[]:=List.drop_eq_nil_of_le o!
     cases b with
     | true=>
       refine ⟨.dQ,?_,⟨⟨x.at_.size,fl,hd,by rw[hz];rfl,.inl (by rw[hz];rfl)⟩,.inr (.inl rfl),ok⟩⟩
       simp only[dx,ht,x.at_.size,hc,if_true,bo]
       rfl
     | false=>
       refine ⟨.slice p o (l.length - c) (c - c) false,?_,⟨⟨x.at_.size,fl,hd,by rw[List.length_drop];exact fR _ _ _ _ _ _,.inl (by rw[hz];rfl)⟩,.inr (.inr ⟨_,_,_,_,_,rfl,fun q=>by cases q⟩),ok⟩⟩
       simp only[dx,ht,x.at_.size,hc,if_true,bo]
       simp
   · refine ⟨.slice p (o+i*aA.n α) (l.length - i) (c - i) b,?_,⟨⟨x.at_.size,fl,hd,by rw[List.length_drop];exact fR _ _ _ _ _ _,.inr ⟨p,o+i*aA.n α,_,_,b,C,f,ro,rfl,by omega,h2,fun j hj=>?_⟩⟩,.inr (.inr ⟨_,_,_,_,_,rfl,fun _=>by omega⟩),ok⟩⟩
     · simp only[dx,ht,x.at_.size,hc,if_true,bo]
       rw[if_neg e]
       simp
     · rw[fl,List.length_drop] at hj
       have j0:i*aA.n α+j<(l.flatMap aA.c).length:=by
        rw[b7 aA.len]
        have:=Nat.sub_mul l.length i (aA.n α)
        have:=Nat.mul_le_mul_right (aA.n α) hi
        omega
       rw[Nat.add_assoc,h3 _ j0]
       have e2:l=l.take i++l.drop i:=(List.take_append_drop i l).symm
       conv=>lhs;rw[e2,List.flatMap_append]
       rw[List.getElem?_append_right (by rw[b7 aA.len,List.length_take,Nat.min_eq_left hi];omega),b7 aA.len,List.length_take,Nat.min_eq_left hi,Nat.add_sub_cancel_left]
theorem modn {a b:Int} (hb:0<b) (hs:b<2^62):0≤Int.tmod (IntKind.i64.wrap (Int.tmod a b+b)) b∧Int.tmod (IntKind.i64.wrap (Int.tmod a b+b)) b<b:=by
 have h1:=Int.tmod_lt_of_pos a hb
 have h2: -b<Int.tmod a b:=by
  rcases Int.le_total 0 a with h | h
  · have:=Int.tmod_nonneg b h;omega
  · have:=Int.tmod_lt_of_pos (-a) hb
    rw[Int.neg_tmod] at this;omega
 rw[wrap_i64 o! o!]
 exact ⟨Int.tmod_nonneg b o!,Int.tmod_lt_of_pos _ hb⟩
def uF:Code:=(Try.f21.body).getD .skip
theorem K0:Try.f21.body=some uF:=by kernel_rfl
def ab (n:Int) (aU:Int) (aF:Int):Int:=(IntKind.i64.wrap (aU+(Int.tmod (IntKind.i64.wrap ((Int.tmod n ((aF - aU)+1))+((aF - aU)+1))) ((aF - aU)+1))))
theorem iz {d:Nat} {h:aw} (n:Int) (aU:Int) (aF:Int) (qV: -1000000000000≤aU) (IN:aU≤aF) (Gn:aF≤1000000000000) (ch:Tidy h):dh (d+1) (.fn 21) [(Zi n),(Zi aU),(Zi aF)] h= .ret (Zi (ab n aU aF)) h:=by
 have w1:IntKind.i64.wrap (aF - aU)=aF - aU:=wrap_i64 o! o!
 have w2:IntKind.i64.wrap ((aF - aU)+1)=(aF - aU)+1:=wrap_i64 o! o!
 obtain ⟨im0,Sp⟩:∃q_:Int,q_=(Int.tmod (IntKind.i64.wrap ((Int.tmod n ((aF - aU)+1))+((aF - aU)+1))) ((aF - aU)+1)):=⟨_,rfl⟩
 have agM:0≤im0∧im0<((aF - aU)+1):=by rw[Sp];exact modn o! (by first | omega | exact agN _ _ _)
 have ev:=pk (d) uF ((Zi n)::(Zi aU)::(Zi aF)::iW 18) h .ret h (CN 3<|VV (wC 3 false false w1)<|VV (Q5 3 false true w2)<|CN 4<|VV (show cE env .rem 3 false false (some (Zi n)) (some (Zi ((aF - aU)+1)))=some (Zi (Int.tmod n ((aF - aU)+1))) from BT o! rfl)<|CN 3<|VV (show cE env .rem 3 false false (some (Zi (IntKind.i64.wrap ((Int.tmod n ((aF - aU)+1))+((aF - aU)+1))))) (some (Zi ((aF - aU)+1)))=some (Zi im0) from BT o! Sp.symm)<|CN 2<|ZZ) k!
 subst Sp
 have e:ab n aU aF=(IntKind.i64.wrap (aU+(Int.tmod (IntKind.i64.wrap ((Int.tmod n ((aF - aU)+1))+((aF - aU)+1))) ((aF - aU)+1)))):=by simp only[ab,ak,ah]
 rw[e]
 exact aC rfl (bh Try.func21 K0 k! (.inr rfl) ev k!) (Has.refl _) rfl
def Gp:Code:=(Try.f30.body).getD .skip
theorem El:Try.f30.body=some Gp:=by kernel_rfl
def d_ (n:Int):Bool:=(bif (decide (0≤n)) then (decide (n≤100000)) else false)
theorem Em {d:Nat} {h:aw} (n:Int) (ch:Tidy h):dh (d+1) (.fn 30) [(Zi n)] h= .ret (AV.bool (d_ n)) h:=by
 rcases Bool.eq_false_or_eq_true (decide (0≤n)) with f0 | f0
 · have ji:=of_decide_eq_true f0
   have e:d_ n=(decide (n≤100000)):=by simp only[d_,f0,ak,ah]
   rw[e]
   exact aC rfl (bh Try.func30 El rfl (.inr rfl) (pk (d) _ _ h _ h (CN 2<|VV (qd 3 false true .i64 n 0)<|CC<|BC f0<|BV f0 (qT 3 false true .i64 n 100000)<|VV (oV (decide (n≤100000)) false f0)<|CC<|ZZ) k!) k!) (Has.refl _) rfl
 · have ji:=of_decide_eq_false f0
   have e:d_ n=false:=by simp only[d_,f0,ak,ah]
   rw[e]
   exact aC rfl (bh Try.func30 El rfl (.inr rfl) (pk (d) _ _ h _ h (CN 2<|VV (qd 3 false true .i64 n 0)<|CC<|BB f0<|BV f0 (uj false f0)<|CC<|ZZ) k!) k!) (Has.refl _) rfl
def xa:Code:=(Try.f38.body).getD .skip
theorem hJ:Try.f38.body=some xa:=by kernel_rfl
def bz (g:bT):Int:=(bif (decide (g.acc<0)) then 1 else (bif (decide (1000000000<g.acc)) then 1 else (bif (decide (g.bH<0)) then 1 else (bif (decide (1000000000<g.bH)) then 1 else (bif (!(d_ g.since)) then 1 else 0)))))
theorem sJ {d:Nat} {h:aw} (g:bT) (Vd:aA.ok h g) (ch:Tidy h):dh (d+2) (.fn 38) [(AV.agg [(AV.str g.name),(Zi g.acc),(Zi g.bH),(Zi g.since)])] h= .ret (Zi (bz g)) h:=by
 obtain ⟨h1,ct,ck,jj,aW,cr⟩:=iX ch (aR.cells [(AV.str g.name),(Zi g.acc),(Zi g.bH),(Zi g.since)] 45 false)
 have bG:Has h h1:=cr
 rcases Bool.eq_false_or_eq_true (decide (g.acc<0)) with f0 | f0
 · have ji:=of_decide_eq_true f0
   have e:bz g=1:=by simp only[bz,f0,ak,ah]
   rw[e]
   exact aC rfl (bh Try.func38 hJ rfl (.inr rfl) (pk (d+1) _ _ h _ h1 (NN ct (fun i=>(Pt i))<|CN 2<|MM (aK 3 1 (Zi g.acc) aW k!)<|VV (bU 3 false true .i64 g.acc 0)<|CC<|BB f0<|BB f0<|BV f0 (ot true f0)<|CC<|TT<|TT<|TT<|CN 2<|TT<|TT<|TT<|CN 2<|TT<|TT<|TT<|TT<|CC<|TT<|CC<|ZZ) k!) k!) bG rfl
 · have ji:=of_decide_eq_false f0
   rcases Bool.eq_false_or_eq_true (decide (1000000000<g.acc)) with f1 | f1
   · have jk:=of_decide_eq_true f1
     have e:bz g=1:=by simp only[bz,f0,f1,ak,ah]
     rw[e]
     exact aC rfl (bh Try.func38 hJ rfl (.inr rfl) (pk (d+1) _ _ h _ h1 (NN ct (fun i=>(Pt i))<|CN 2<|MM (aK 3 1 (Zi g.acc) aW k!)<|VV (bU 3 false true .i64 g.acc 0)<|CC<|BC f0<|BM f0 (aK 3 1 (Zi g.acc) aW k!)<|BV f0 (b9 3 false true .i64 g.acc 1000000000)<|VV (a_ (a:=some (AV.bool true)) (b:=some (AV.bool (decide (1000000000<g.acc)))) f0)<|CC<|BB f1<|BB f1<|BV f1 (ot true f1)<|CC<|TT<|TT<|TT<|CN 2<|TT<|TT<|TT<|TT<|CC<|TT<|CC<|ZZ) k!) k!) bG rfl
   · have jk:=of_decide_eq_false f1
     rcases Bool.eq_false_or_eq_true (decide (g.bH<0)) with f2 | f2
     · have ou:=of_decide_eq_true f2
       have e:bz g=1:=by simp only[bz,f0,f1,f2,ak,ah]
       rw[e]
       exact aC rfl (bh Try.func38 hJ rfl (.inr rfl) (pk (d+1) _ _ h _ h1 (NN ct (fun i=>(Pt i))<|CN 2<|MM (aK 3 1 (Zi g.acc) aW k!)<|VV (bU 3 false true .i64 g.acc 0)<|CC<|BC f0<|BM f0 (aK 3 1 (Zi g.acc) aW k!)<|BV f0 (b9 3 false true .i64 g.acc 1000000000)<|VV (a_ (a:=some (AV.bool true)) (b:=some (AV.bool (decide (1000000000<g.acc)))) f0)<|CC<|BC f1<|BM f1 (aK 3 2 (Zi g.bH) aW k!)<|BV f1 (bU 3 false true .i64 g.bH 0)<|VV (a_ (a:=some (AV.bool true)) (b:=some (AV.bool (decide (g.bH<0)))) f1)<|CC<|BB f2<|BB f2<|BV f2 (ot true f2)<|CC<|TT<|TT<|TT<|TT<|CC<|TT<|CC<|ZZ) k!) k!) bG rfl
     · have ou:=of_decide_eq_false f2
       rcases Bool.eq_false_or_eq_true (decide (1000000000<g.bH)) with f3 | f3
       · have jl:=of_decide_eq_true f3
         have e:bz g=1:=by simp only[bz,f0,f1,f2,f3,ak,ah]
         rw[e]
         exact aC rfl (bh Try.func38 hJ rfl (.inr rfl) (pk (d+1) _ _ h _ h1 (NN ct (fun i=>(Pt i))<|CN 2<|MM (aK 3 1 (Zi g.acc) aW k!)<|VV (bU 3 false true .i64 g.acc 0)<|CC<|BC f0<|BM f0 (aK 3 1 (Zi g.acc) aW k!)<|BV f0 (b9 3 false true .i64 g.acc 1000000000)<|VV (a_ (a:=some (AV.bool true)) (b:=some (AV.bool (decide (1000000000<g.acc)))) f0)<|CC<|BC f1<|BM f1 (aK 3 2 (Zi g.bH) aW k!)<|BV f1 (bU 3 false true .i64 g.bH 0)<|VV (a_ (a:=some (AV.bool true)) (b:=some (AV.bool (decide (g.bH<0)))) f1)<|CC<|BC f2<|BM f2 (aK 3 2 (Zi g.bH) aW k!)<|BV f2 (b9 3 false true .i64 g.bH 1000000000)<|VV (a_ (a:=some (AV.bool true)) (b:=some (AV.bool (decide (1000000000<g.bH)))) f2)<|CC<|BB f3<|BB f3<|BB f3<|BV f3 (ot true f3)<|TT<|CC<|ZZ) k!) k!) bG rfl
       · have jl:=of_decide_eq_false f3
         have k6:=Em (d:=d) g.since ck
         rcases Bool.eq_false_or_eq_true (!(d_ g.since)) with f4 | f4
         · have e:bz g=1:=by simp only[bz,f0,f1,f2,f3,f4,ak,ah]
           rw[e]
           exact aC rfl (bh Try.func38 hJ rfl (.inr rfl) (pk (d+1) _ _ h _ h1 (NN ct (fun i=>(Pt i))<|CN 2<|MM (aK 3 1 (Zi g.acc) aW k!)<|VV (bU 3 false true .i64 g.acc 0)<|CC<|BC f0<|BM f0 (aK 3 1 (Zi g.acc) aW k!)<|BV f0 (b9 3 false true .i64 g.acc 1000000000)<|VV (a_ (a:=some (AV.bool true)) (b:=some (AV.bool (decide (1000000000<g.acc)))) f0)<|CC<|BC f1<|BM f1 (aK 3 2 (Zi g.bH) aW k!)<|BV f1 (bU 3 false true .i64 g.bH 0)<|VV (a_ (a:=some (AV.bool true)) (b:=some (AV.bool (decide (g.bH<0)))) f1)<|CC<|BC f2<|BM f2 (aK 3 2 (Zi g.bH) aW k!)<|BV f2 (b9 3 false true .i64 g.bH 1000000000)<|VV (a_ (a:=some (AV.bool true)) (b:=some (AV.bool (decide (1000000000<g.bH)))) f2)<|CC<|BC f3<|BM f3 (aK 3 3 (Zi g.since) aW k!)<|BB f3<|EE k6<|BC f3<|VV (a_ (a:=some (AV.bool true)) (b:=some (AV.bool (!(d_ g.since)))) f3)<|BC f4<|ZZ) k!) k!) bG rfl
         · have e:bz g=0:=by simp only[bz,f0,f1,f2,f3,f4,ak,ah]
           rw[e]
           exact aC rfl (bh Try.func38 hJ rfl (.inr rfl) (pk (d+1) _ _ h _ h1 (NN ct (fun i=>(Pt i))<|CN 2<|MM (aK 3 1 (Zi g.acc) aW k!)<|VV (bU 3 false true .i64 g.acc 0)<|CC<|BC f0<|BM f0 (aK 3 1 (Zi g.acc) aW k!)<|BV f0 (b9 3 false true .i64 g.acc 1000000000)<|VV (a_ (a:=some (AV.bool true)) (b:=some (AV.bool (decide (1000000000<g.acc)))) f0)<|CC<|BC f1<|BM f1 (aK 3 2 (Zi g.bH) aW k!)<|BV f1 (bU 3 false true .i64 g.bH 0)<|VV (a_ (a:=some (AV.bool true)) (b:=some (AV.bool (decide (g.bH<0)))) f1)<|CC<|BC f2<|BM f2 (aK 3 2 (Zi g.bH) aW k!)<|BV f2 (b9 3 false true .i64 g.bH 1000000000)<|VV (a_ (a:=some (AV.bool true)) (b:=some (AV.bool (decide (1000000000<g.bH)))) f2)<|CC<|BC f3<|BM f3 (aK 3 3 (Zi g.since) aW k!)<|BB f3<|EE k6<|BC f3<|VV (a_ (a:=some (AV.bool true)) (b:=some (AV.bool (!(d_ g.since)))) f3)<|BC f4<|ZZ) k!) k!) bG rfl
def Gq:Code:=(Try.f33.body).getD .skip
theorem O2:Try.f33.body=some Gq:=by kernel_rfl
def cx (g:bT) (t:Int):Int:=(IntKind.i64.wrap (g.acc+(IntKind.i64.wrap (g.bH*(IntKind.i64.wrap (Int.tdiv (IntKind.i64.wrap ((imax (IntKind.i64.wrap (t - g.since)) 0)+999)) 1000))))))
theorem O3 {d:Nat} {h:aw} (g:bT) (t:Int) (Vd:aA.ok h g) (ch:Tidy h):dh (d+1) (.fn 33) [(AV.agg [(AV.str g.name),(Zi g.acc),(Zi g.bH),(Zi g.since)]),(Zi t)] h= .ret (Zi (cx g t)) h:=by
 obtain ⟨h1,ct,ck,jj,aW,cr⟩:=iX ch (aR.cells [(AV.str g.name),(Zi g.acc),(Zi g.bH),(Zi g.since)] 45 false)
 have bG:Has h h1:=cr
 have e:cx g t=(IntKind.i64.wrap (g.acc+(IntKind.i64.wrap (g.bH*(IntKind.i64.wrap (Int.tdiv (IntKind.i64.wrap ((imax (IntKind.i64.wrap (t - g.since)) 0)+999)) 1000)))))):=by simp only[cx,ak,ah]
 rw[e]
 exact aC rfl (bh Try.func33 O2 rfl (.inr rfl) (pk (d) _ _ h _ h1 (NN ct (fun i=>(Pt i))<|CN 3<|MM (aK 3 3 (Zi g.since) aW k!)<|CN 4<|MM (aK 3 1 (Zi g.acc) aW k!)<|CC<|MM (aK 3 2 (Zi g.bH) aW k!)<|CN 6<|ZZ) k!) k!) bG rfl
def Gr:Code:=(Try.f39.body).getD .skip
theorem yR:Try.f39.body=some Gr:=by kernel_rfl
def aY (g:bT) (t:Int):Int×Int:=(bif (decide ((bz g)=0)) then (bif (!(d_ t)) then (0,1) else ((cx g t),0)) else (0,(bz g)))
theorem O4 {d:Nat} {h:aw} (g:bT) (t:Int) (Vd:aA.ok h g) (ch:Tidy h):dh (d+3) (.fn 39) [(AV.agg [(AV.str g.name),(Zi g.acc),(Zi g.bH),(Zi g.since)]),(Zi t)] h= .ret (AV.tuple [(Zi (aY g t).1),(Zi (aY g t).2)]) h:=by
 obtain ⟨h1,ct,ck,jj,aW,cr⟩:=iX ch (aR.cells [(AV.str g.name),(Zi g.acc),(Zi g.bH),(Zi g.since)] 45 false)
 have bG:Has h h1:=cr
 have k2:=sJ (d:=d) g (aA.mono bG Vd) ck
 rcases Bool.eq_false_or_eq_true (decide ((bz g)=0)) with f0 | f0
 · have ji:=of_decide_eq_true f0
   have k4:=Em (d:=d+1) t ck
   rcases Bool.eq_false_or_eq_true (!(d_ t)) with f1 | f1
   · have e:aY g t=(0,1):=by simp only[aY,f0,f1,ak,ah]
     rw[e]
     exact aC rfl (bh Try.func39 yR rfl (.inr rfl) (pk (d+2) _ _ h _ h1 (NN ct (fun i=>(Pt i))<|CN 2<|MM (aK 45 0 (AV.agg [(AV.str g.name),(Zi g.acc),(Zi g.bH),(Zi g.since)]) aW k!)<|EE k2<|CN 2<|VV (lH 31 false true .i64 (bz g) 0)<|CC<|BC f0<|BB f0<|EE k4<|BC f0<|VV (oV (!(d_ t)) false f0)<|BB f1<|CN 3<|TT<|CN 3<|ZZ) k!) k!) bG rfl
   · have q6:(!decide ((bz g)=0))=false:=d!
     have k7:=O3 (d:=d+1) g t (aA.mono bG Vd) ck
     have e:aY g t=((cx g t),0):=by simp only[aY,f0,f1,ak,ah]
     rw[e]
     exact aC rfl (bh Try.func39 yR rfl (.inr rfl) (pk (d+2) _ _ h _ h1 (NN ct (fun i=>(Pt i))<|CN 2<|MM (aK 45 0 (AV.agg [(AV.str g.name),(Zi g.acc),(Zi g.bH),(Zi g.since)]) aW k!)<|EE k2<|CN 2<|VV (lH 31 false true .i64 (bz g) 0)<|CC<|BC f0<|BB f0<|EE k4<|BC f0<|VV (oV (!(d_ t)) false f0)<|BC f1<|VV (j6 31 false true .i64 (bz g) 0)<|BM q6 (aK 45 0 (AV.agg [(AV.str g.name),(Zi g.acc),(Zi g.bH),(Zi g.since)]) aW k!)<|CC<|EE k7<|CN 2<|ZZ) k!) k!) bG rfl
 · have ji:=of_decide_eq_false f0
   have q4:(!decide ((bz g)=0))=true:=d!
   have e:aY g t=(0,(bz g)):=by simp only[aY,f0,ak,ah]
   rw[e]
   exact aC rfl (bh Try.func39 yR rfl (.inr rfl) (pk (d+2) _ _ h _ h1 (NN ct (fun i=>(Pt i))<|CN 2<|MM (aK 45 0 (AV.agg [(AV.str g.name),(Zi g.acc),(Zi g.bH),(Zi g.since)]) aW k!)<|EE k2<|CN 2<|VV (lH 31 false true .i64 (bz g) 0)<|CC<|BB f0<|BB f0<|BV f0 (uj false f0)<|FF<|CC<|VV (j6 31 false true .i64 (bz g) 0)<|BB q4<|CN 3<|ZZ) k!) k!) bG rfl
def B1 (z w:AV):Prop:=∀k,bD z k∨bD w k
theorem bD.nil (k:Nat):bD .aN k:=fun _ _ _ _ e=>by cases e
theorem B1.nil (w:AV):B1 .aN w:=fun k=> .inl (bD.nil k)
theorem B1.symm {z w:AV} (a:B1 z w):B1 w z:=fun k=>(a k).symm
theorem bD.sl {p o n c k:Nat} {b:Bool} (h:p≠k):bD (.slice p o n c b) k:=fun o' n' c' b' e=>h (AV.slice.inj e).1
section
variable {e:TypeId} {g h h':aw} {z z' w:AV} {L M:List AV}
theorem eY.sK (y:Tidy h) (o:eY e g h z L) {k:Nat} (hk:h.nx≤k):bD z k:=by
 rcases o with ⟨rfl,_⟩ | ⟨_,p,op,rfl,_,hg⟩
 · exact bD.nil k
 · have:=y _ _ hg
   exact bD.sl o!
theorem eY.aU (o:eY e g h z L) {k:Nat} (hk:k<g.nx):bD z k:=by
 rcases o with ⟨rfl,_⟩ | ⟨_,p,op,rfl,hp,hg⟩
 · exact bD.nil k
 · exact bD.sl o!
theorem eY.Ap (o:eY e g h w L) (ap:B1 z w) (kp:∀i x,bD z i→h.get i=some x→h'.get i=some x):eY e g h' w L:=by
 rcases o with ⟨rfl,e0⟩ | ⟨hn,p,op,rfl,hp,hg⟩
 · exact .inl ⟨rfl,e0⟩
 · exact .inr ⟨hn,p,op,rfl,hp,kp _ _ ((ap p).resolve_right fun q=>q _ _ _ _ rfl) hg⟩
theorem eY.WS {b:Nat} {C:aR} (o:eY e g h z L) (c:Chg h h' b C) (n:bD z b):eY e g h' z L:=by
 rcases o with ⟨rfl,e0⟩ | ⟨hn,p,op,rfl,hp,hg⟩
 · exact .inl ⟨rfl,e0⟩
 · exact .inr ⟨hn,p,op,rfl,hp,c.2.2 _ _ (fun q=>n 0 _ _ op (by subst q;rfl)) hg⟩
theorem eY.scalar (o:eY e g h z L):AV.scalar z=true:=by
 rcases o with ⟨rfl,_⟩ | ⟨_,p,op,rfl,_,_⟩<;>rfl
theorem eY.kept {b:Nat} (o:eY e g h z L) (c:Kept b h h') (n:bD z b):eY e g h' z L:=by
 rcases o with ⟨rfl,e0⟩ | ⟨hn,p,op,rfl,hp,hg⟩
 · exact .inl ⟨rfl,e0⟩
 · exact .inr ⟨hn,p,op,rfl,hp,c _ _ (fun q=>n 0 _ _ op (by subst q;rfl)) hg⟩
theorem eY.same {L':List AV} (o:eY e g h z L) (o':eY e g h' z L') (a:Has h h'):L'=L:=by
 rcases o with ⟨rfl,e0⟩ | ⟨hn,p,op,rfl,hp,hg⟩<;>rcases o' with ⟨e1,e2⟩ | ⟨ZE,p',op',e1,ZX,hg'⟩
 · rw[e0,e2]
 · cases e1
 · cases e1
 · have q:=(AV.slice.inj e1).1
   subst q
   have:=a _ _ hg
   rw[hg'] at this
   simpa using this
theorem eY.OA {s xt:TypeId} {xd:TypeDesc} {tys:Array TypeId} {bytes:Nat} {z0 x:AV} (y:Tidy h) (hle:g.nx≤h.nx) (o:eY e g h z L) (t0:tys[0]? =some s) (t1:tys[1]? =some xt) (hs:env.P.underlying s=some (.slice e)) (hx:env.P.underlying xt=some xd) (hi:ks xd=false) (JZ:bZ env e=some 1) (hb:fm env e=some bytes) (qR:ff env e=some z0) (hz:z0.cells.length=1) (h8:bytes≤63) (hlen:kM x=some M.length) (hf:eU h 1 M.length x=some M) (oU:M.all AV.scalar=true) (hl:L.length+M.length≤1073741824):
 ∃z' h',bR env h tys z x=some (z',h')∧Tidy h'∧h.nx≤h'.nx∧eY e g h' z' (L++M)∧(∀i w,bD z i→h.get i=some w→h'.get i=some w)∧(∀k,k<h.nx→bD z k→bD z' k):=by
 by_cases hm:M=[]
 · subst hm
   rcases o with ⟨rfl,rfl⟩ | ⟨hn,p,op,rfl,hp,hg⟩
   · refine ⟨.aN,h,?_,y,Nat.le_refl _,.inl ⟨rfl,rfl⟩,fun _ _ _ q=>q,fun _ _ q=>q⟩
     simp only[List.length_nil] at hlen hf
     simp only[bR,t0,t1,hs,hx,hi,JZ,hb,hlen,hf,qR,hz,oU,if_true,if_false,and_self,List.length_nil,Bool.false_eq_true,Nat.zero_mul]
   · have hg2:∀i,(h.put p (some (.cells L e false))).get i=h.get i:=fun i=>by
      by_cases q:i=p
      · subst q;rw[aw.bS,hg]
      · rw[aw.bx (Ne.symm q)]
     refine ⟨_,h.put p (some (.cells L e false)),?_,fun i x q=>y i x (by rw[←hg2];exact q),Nat.le_refl _,.inr ⟨by simpa using hn,p,op,by rw[List.append_nil],hp,by rw[hg2,List.append_nil];exact hg⟩,fun i w _ q=>by rw[hg2];exact q,fun _ _ q=>q⟩
     simp only[List.length_nil] at hlen hf
     simp only[bR,t0,t1,hs,hx,hi,JZ,hb,hlen,hf,qR,hz,oU,hg,if_true,if_false,and_self,List.length_nil,Bool.false_eq_true,Nat.zero_mul,Nat.add_zero,Nat.zero_add,Nat.le_refl,Nat.mul_one,setFrom]
 · rcases o with ⟨rfl,rfl⟩ | ⟨hn,p,op,rfl,hp,hg⟩
   · obtain ⟨h',e1,n⟩:=sG (h:=h) t0 t1 hs hx hi JZ hb qR hz h8 hlen hf oU hm (by simpa using hl)
     have:=lP n
     exact ⟨_,h',e1,fT y n,by omega,.inr ⟨by simpa using hm,h.nx,true,by simp,hle,jC n⟩,fun i w _ q=>fS y n q,fun k hk _=>bD.sl o!⟩
   · obtain ⟨h',e1,y1,z1,k1,g1⟩:=sH (op:=op) y t0 t1 hs hx hi JZ hb qR hz h8 hlen hf oU rfl hm hl hg
     exact ⟨_,h',e1,y1,by omega,.inr ⟨by simp [hn],h.nx,true,by rw[List.length_append],hle,g1⟩,fun i w q=>k1 i w (fun e=>q 0 L.length L.length op (by subst e;rfl)),fun k hk _=>bD.sl o!⟩
end
section
variable {α:Type} [aA α] {h0 h h':aw} {z z' w:AV} {l m:List α}
theorem bk.adv {s xt:TypeId} {tys:Array TypeId} {bytes N:Nat} {z0 x:AV} (y:Tidy h) (y0:Tidy h0) (a:Has h0 h) (hle:h0.nx≤h.nx) (o:bk h0 h z l) (hlen:kM x=some m.length) (hf:eU h (aA.n α) m.length x=some (m.flatMap aA.c)) (oU:(m.flatMap aA.c).all AV.scalar=true) (hl:l.length+m.length≤N)
 (t0:tys[0]? =some s) (t1:tys[1]? =some xt) (hs:env.P.underlying s=some (.slice (aA.e α))) (hx:env.P.underlying xt=some (.slice (aA.e α))) (hb:fm env (aA.e α)=some bytes) (qR:ff env (aA.e α)=some z0) (hz:z0.cells.length=aA.n α) (WR:∀k,k≤N→(4*k+4096)*(bytes+1)≤1099511627776):
 ∃z' h',bR env h tys z x=some (z',h')∧Tidy h'∧h.nx≤h'.nx∧Has h0 h'∧bk h0 h' z' (l++m)∧(∀i w,bD z i→h.get i=some w→h'.get i=some w)∧(∀k,k<h.nx→bD z k→bD z' k):=by
 have wY:=b7 aA.len m
 have hi:ks (.slice (aA.e α))=false:=rfl
 have wZ:∀{p:Nat} {ob:aR},h.get p=some ob→Tidy (h.put p (some ob))∧Has h0 (h.put p (some ob))∧(∀i w,h.get i=some w→(h.put p (some ob)).get i=some w):=fun {p ob} g=>by
  have hg:∀i,(h.put p (some ob)).get i=h.get i:=fun i=>by
   by_cases e:i=p
   · subst e;rw[aw.bS,g]
   · rw[aw.bx (Ne.symm e)]
  exact ⟨fun i w q=>y i w (by rw[←hg];exact q),fun i w q=>by rw[hg];exact a i w q,fun i w q=>by rw[hg];exact q⟩
 have Se:m≠ []→∃h',h.new (.cells (m.flatMap aA.c) (aA.e α) false)=some h'∧Tidy h'∧h.nx≤h'.nx∧Has h0 h'∧bk h0 h' (.slice h.nx 0 m.length m.length true) m∧∀i w,h.get i=some w→h'.get i=some w:=fun hm=>by
  obtain ⟨h',n⟩:=lQ (h:=h) (.cells (m.flatMap aA.c) (aA.e α) false)
  have:=lP n
  exact ⟨h',n,fT y n,by omega,a.trans (tS y n),.inr ⟨hm,h.nx,true,rfl,hle,jC n⟩,fun i w g=>fS y n g⟩
 rcases o with ⟨rfl | ⟨p,rfl,hp,hg⟩,rfl⟩ | ⟨hn,p,op,rfl,hp,hg⟩
 · rw[List.nil_append]
   by_cases hm:m=[]
   · subst hm
     simp only[List.length_nil,List.flatMap_nil,Nat.zero_mul] at hlen hf oU wY
     refine ⟨.aN,h,?_,y,Nat.le_refl _,a,.inl ⟨.inl rfl,rfl⟩,fun _ _ _ g=>g,fun _ _ q=>q⟩
     simp only[bR,t0,t1,hs,hx,hi,aA.size,hb,hlen,hf,qR,hz,oU,wY,if_true,if_false,and_self,List.length_nil,Bool.false_eq_true,Nat.zero_mul]
   · obtain ⟨h',n,q1,q2,q3,q4,q5⟩:=Se hm
     have Mz:¬m.length=0:=fun e=>hm (List.length_eq_zero_iff.1 e)
     refine ⟨_,h',?_,q1,q2,q3,q4,fun i w _ g=>q5 i w g,fun k hk _=>bD.sl o!⟩
     simp only[bR,t0,t1,hs,hx,hi,aA.size,hb,hlen,hf,qR,hz,oU,wY,Mz,WR m.length o!,n,if_true,if_false,and_self,Bool.false_eq_true]
 · rw[List.nil_append]
   by_cases hm:m=[]
   · subst hm
     simp only[List.length_nil,List.flatMap_nil,Nat.zero_mul] at hlen hf oU wY
     obtain ⟨q1,q2,q3⟩:=wZ hg
     refine ⟨_,_,?_,q1,Nat.le_refl _,q2,.inl ⟨.inr ⟨p,rfl,hp,q3 _ _ hg⟩,rfl⟩,fun i w _ g=>q3 i w g,fun _ _ q=>q⟩
     simp only[bR,t0,t1,hs,hx,hi,aA.size,hb,hlen,hf,qR,hz,oU,wY,hg,if_true,if_false,and_self,List.length_nil,Bool.false_eq_true,Nat.zero_mul,Nat.add_zero,Nat.le_refl,List.flatMap_nil,setFrom]
   · obtain ⟨h',n,q1,q2,q3,q4,q5⟩:=Se hm
     have Mz:¬m.length≤0:=fun e=>hm (List.length_eq_zero_iff.1 o!)
     refine ⟨_,h',?_,q1,q2,q3,q4,fun i w _ g=>q5 i w g,fun k hk _=>bD.sl o!⟩
     simp only[bR,t0,t1,hs,hx,hi,aA.size,hb,hlen,hf,qR,hz,oU,wY,hg,Mz,if_true,if_false,and_self,Bool.false_eq_true,Nat.zero_mul,Nat.add_zero,Nat.zero_add,List.length_nil,Nat.le_refl]
     rw[if_pos ⟨WR m.length o!,trivial,fun e=>e.elim⟩]
     simp only[List.drop_nil,List.take_nil,List.nil_append,n]
 · have hlp:0<l.length:=List.length_pos_iff.2 hn
   have hpx:=y _ _ hg
   have P4:=b7 aA.len l
   by_cases hm:m=[]
   · subst hm
     simp only[List.length_nil,List.flatMap_nil,Nat.zero_mul] at hlen hf oU wY
     obtain ⟨q1,q2,q3⟩:=wZ hg
     rw[List.append_nil]
     refine ⟨_,_,?_,q1,Nat.le_refl _,q2,.inr ⟨hn,p,op,rfl,hp,q3 _ _ hg⟩,fun i w _ g=>q3 i w g,fun _ _ q=>q⟩
     simp only[bR,t0,t1,hs,hx,hi,aA.size,hb,hlen,hf,qR,hz,oU,wY,hg,P4,if_true,if_false,and_self,List.length_nil,Bool.false_eq_true,Nat.zero_mul,Nat.add_zero,Nat.zero_add,Nat.le_refl,List.flatMap_nil,setFrom]
   · have hm0:0<m.length:=List.length_pos_iff.2 hm
     have y2:Tidy (if op then h.put p none else h):=by
      cases op with
      | false=>exact y
      | true=>
        intro i x g
        show i<h.nx
        by_cases hi:i=p
        · subst hi;exact hpx
        · rw[if_pos rfl,aw.bx (Ne.symm hi)] at g;exact y i x g
     have n2:(if op then h.put p none else h).nx=h.nx:=by cases op<;>rfl
     have k2:∀i w,i≠p→h.get i=some w→(if op then h.put p none else h).get i=some w:=fun i w hi g=>by
      cases op with
      | false=>exact g
      | true=>rw[if_pos rfl,aw.bx (Ne.symm hi)];exact g
     obtain ⟨h',n⟩:=lQ (h:=if op then h.put p none else h) (.cells (l.flatMap aA.c++m.flatMap aA.c) (aA.e α) false)
     have hk:∀i w,i≠p→h.get i=some w→h'.get i=some w:=fun i w hi g=>fS y2 n (k2 i w hi g)
     have hc:¬l.length+m.length≤l.length:=by omega
     refine ⟨.slice h.nx 0 (l.length+m.length) (l.length+m.length) true,h',?_,fT y2 n,by rw[lP n,n2];omega,fun i w g=>?_,.inr ⟨by simp [hn],h.nx,true,by rw[List.length_append],hle,by rw[List.flatMap_append,←n2];exact jC n⟩,fun i w q g=>hk i w (fun e=>q 0 l.length l.length op (by subst e;rfl)) g,fun k hk _=>bD.sl o!⟩
     · simp only[bR,t0,t1,hs,hx,hi,aA.size,hb,hlen,hf,qR,hz,oU,wY,hg,hc,if_true,if_false,and_self,Bool.false_eq_true]
       rw[if_pos ⟨WR _ hl,by rw[P4];omega,fun _=>⟨trivial,by rw[P4];omega,trivial⟩⟩]
       rw[List.drop_zero,List.take_of_length_le (by rw[P4];exact Nat.le_refl _),n]
     · have:=y0 _ _ g
       exact hk i w o! (a i w g)
theorem bk.Ds {s xt:TypeId} {tys:Array TypeId} {bytes:Nat} {z0 x:AV} (y:Tidy h) (y0:Tidy h0) (a:Has h0 h) (hle:h0.nx≤h.nx) (o:bk h0 h z l) (hlen:kM x=some m.length) (hf:eU h (aA.n α) m.length x=some (m.flatMap aA.c)) (oU:(m.flatMap aA.c).all AV.scalar=true) (hl:l.length+m.length≤1000000000)
 (t0:tys[0]? =some s) (t1:tys[1]? =some xt) (hs:env.P.underlying s=some (.slice (aA.e α))) (hx:env.P.underlying xt=some (.slice (aA.e α))) (hb:fm env (aA.e α)=some bytes) (qR:ff env (aA.e α)=some z0) (hz:z0.cells.length=aA.n α) (h8:bytes≤255):
 ∃z' h',bR env h tys z x=some (z',h')∧Tidy h'∧h.nx≤h'.nx∧Has h0 h'∧bk h0 h' z' (l++m)∧(∀i w,bD z i→h.get i=some w→h'.get i=some w)∧(∀k,k<h.nx→bD z k→bD z' k):=
 bk.adv y y0 a hle o hlen hf oU hl t0 t1 hs hx hb qR hz fun k hk=>Nat.le_trans (Nat.mul_le_mul (show 4*k+4096≤4294967296 by omega) (show bytes+1≤256 by omega)) (by decide)
theorem bk.WS {b:Nat} {C:aR} (o:bk h0 h z l) (c:Chg h h' b C) (n:bD z b):bk h0 h' z l:=by
 rcases o with ⟨rfl | ⟨p,rfl,h1,h2⟩,rfl⟩ | ⟨hn,p,op,rfl,hp,hg⟩
 · exact .inl ⟨.inl rfl,rfl⟩
 · exact .inl ⟨.inr ⟨p,rfl,h1,c.2.2 _ _ (fun q=>n 0 _ _ false (by subst q;rfl)) h2⟩,rfl⟩
 · exact .inr ⟨hn,p,op,rfl,hp,c.2.2 _ _ (fun q=>n 0 _ _ op (by subst q;rfl)) hg⟩
theorem bk.kept {b:Nat} (o:bk h0 h z l) (c:Kept b h h') (n:bD z b):bk h0 h' z l:=by
 rcases o with ⟨rfl | ⟨p,rfl,h1,h2⟩,rfl⟩ | ⟨hn,p,op,rfl,hp,hg⟩
 · exact .inl ⟨.inl rfl,rfl⟩
 · exact .inl ⟨.inr ⟨p,rfl,h1,c _ _ (fun q=>n 0 _ _ false (by subst q;rfl)) h2⟩,rfl⟩
 · exact .inr ⟨hn,p,op,rfl,hp,c _ _ (fun q=>n 0 _ _ op (by subst q;rfl)) hg⟩
theorem bk.O5 (o:bk h0 h z l) {k:Nat} (hk:k<h0.nx):bD z k:=by
 rcases o with ⟨rfl | ⟨p,rfl,h1,_⟩,rfl⟩ | ⟨_,p,op,rfl,hp,_⟩
 · exact fun _ _ _ _ e=>by cases e
 · exact fun _ _ _ _ e=>by have:=(AV.slice.inj e).1;omega
 · exact fun _ _ _ _ e=>by have:=(AV.slice.inj e).1;omega
theorem bD.slice {p o n c:Nat} {b:Bool} {i:Nat} (h:p≠i):bD (.slice p o n c b) i:=fun _ _ _ _ e=>h (AV.slice.inj e).1
theorem bk.sK (y:Tidy h) (o:bk h0 h z l) {k:Nat} (hk:h.nx≤k):bD z k:=by
 rcases o with ⟨rfl | ⟨p,rfl,h1,h2⟩,rfl⟩ | ⟨_,p,op,rfl,_,hg⟩
 · exact bD.nil k
 · have:=y _ _ h2;exact bD.sl o!
 · have:=y _ _ hg;exact bD.sl o!
theorem bk.Ap (o:bk h0 h w l) (ap:B1 z w) (kp:∀i x,bD z i→h.get i=some x→h'.get i=some x):bk h0 h' w l:=by
 rcases o with ⟨rfl | ⟨p,rfl,h1,h2⟩,rfl⟩ | ⟨hn,p,op,rfl,hp,hg⟩
 · exact .inl ⟨.inl rfl,rfl⟩
 · exact .inl ⟨.inr ⟨p,rfl,h1,kp _ _ ((ap p).resolve_right fun q=>q _ _ _ _ rfl) h2⟩,rfl⟩
 · exact .inr ⟨hn,p,op,rfl,hp,kp _ _ ((ap p).resolve_right fun q=>q _ _ _ _ rfl) hg⟩
end
section
variable {α:Type} [aA α] {h0 h h':aw} {z z' w:AV} {l m:List α}
theorem bk.IP {n:Nat} (o:bk h0 h z l) (v:AV.within h0.nx (n+1) z=true):bk h0 h0 z l:=by
 rcases o with ⟨rfl | ⟨p,rfl,h1,h2⟩,rfl⟩ | ⟨hn,p,op,rfl,hp,hg⟩
 · exact .inl ⟨.inl rfl,rfl⟩
 · have:=of_decide_eq_true (show decide (p<h0.nx)=true from v);omega
 · have:=of_decide_eq_true (show decide (p<h0.nx)=true from v);omega
theorem AS {nx k:Nat} {cs:List AV} (h:AV.within nx (k+1) (.tuple cs)=true) {x:AV} (hx:x∈cs):AV.within nx k x=true:=List.all_eq_true.1 h x hx
end
def dz {σ ζ:Type} (call:bj) (b:Code) (s:St) (ex:h_) (hh:aw) (tn:σ→ζ→(Nat→AV)→List AV) (Qn:σ→ζ→aw→Prop) (v:σ):Prop:=
 ∃z y hk,Ev env call (.loop b) s ex ⟨tn v z y,hk,[],.no⟩∧Tidy hk∧hh.nx≤hk.nx∧Qn v z hk
section
variable {σ ζ:Type} {call:bj} {b:Code} {s:St} {ex:h_} {hh hk:aw} {tn:σ→ζ→(Nat→AV)→List AV} {Qn:σ→ζ→aw→Prop}
theorem dz.out {i:Nat} {L:List AV} {o:σ} (v:σ) (z:ζ) (e:o=v) (ev:Ev env call b s (.exit i) ⟨L,hk,[],.no⟩) (y1:Tidy hk) (n1:hh.nx≤hk.nx) (q:Qn v z hk) (hl:L=tn v z fun k=>L.getD k AV.undef):dz call b s (.exit i) hh tn Qn o:=by
 subst e
 obtain ⟨y,x⟩:=BQ (tmpl:=tn o z) (Ev.out ev) hl
 exact ⟨z,y,hk,x,y1,n1,q⟩
theorem dz.round {L:List AV} {o o':σ} (e:o=o') (ev:Ev env call b s .normal ⟨L,hk,[],.no⟩) (n1:hh.nx≤hk.nx) (uE:(Nat→AV)→List AV) (hl:L=uE fun k=>L.getD k AV.undef) (ih:∀x,dz call b ⟨uE x,hk,[],.no⟩ ex hk tn Qn o'):dz call b s ex hh tn Qn o:=by
 subst e
 have q:=ih fun k=>L.getD k AV.undef
 rw[←hl] at q
 obtain ⟨z,y,h2,x,y1,n2,g⟩:=q
 exact ⟨z,y,h2,Ev.loop ev x,y1,Nat.le_trans n1 n2,g⟩
end
def mG {σ ζ:Type} (call:bj) (b:Code) (s:St) (ex:h_) (hh:aw) (tn:σ→ζ→(Nat→AV)→List AV) (Qn:σ→ζ→aw→Prop) (tr:(Nat→AV)→List AV) (Rn:aw→Prop) (v:Option σ):Prop:=
 match v with
 | some v=>dz call b s ex hh tn Qn v
 | none=>∃y hk,Ev env call (.loop b) s .ret ⟨tr y,hk,[],.no⟩∧Tidy hk∧hh.nx≤hk.nx∧Rn hk
section
variable {σ ζ:Type} {call:bj} {b:Code} {s:St} {ex:h_} {hh hk:aw} {tn:σ→ζ→(Nat→AV)→List AV} {Qn:σ→ζ→aw→Prop} {tr:(Nat→AV)→List AV} {Rn:aw→Prop}
theorem mG.out {i:Nat} {L:List AV} {o:Option σ} (v:σ) (z:ζ) (e:o=some v) (ev:Ev env call b s (.exit i) ⟨L,hk,[],.no⟩) (y1:Tidy hk) (n1:hh.nx≤hk.nx) (q:Qn v z hk) (hl:L=tn v z fun k=>L.getD k AV.undef):mG call b s (.exit i) hh tn Qn tr Rn o:=by
 subst e;exact dz.out v z rfl ev y1 n1 q hl
theorem mG.ret {L:List AV} {o:Option σ} (e:o=none) (ev:Ev env call b s .ret ⟨L,hk,[],.no⟩) (y1:Tidy hk) (n1:hh.nx≤hk.nx) (q:Rn hk) (hl:L=tr fun k=>L.getD k AV.undef):mG call b s ex hh tn Qn tr Rn o:=by
 subst e
 obtain ⟨y,x⟩:=BQ (tmpl:=tr) (Ev.ret ev) hl
 exact ⟨y,hk,x,y1,n1,q⟩
theorem mG.round {L:List AV} {o o':Option σ} (e:o=o') (ev:Ev env call b s .normal ⟨L,hk,[],.no⟩) (n1:hh.nx≤hk.nx) (uE:(Nat→AV)→List AV) (hl:L=uE fun k=>L.getD k AV.undef) (ih:∀x,mG call b ⟨uE x,hk,[],.no⟩ ex hk tn Qn tr Rn o'):mG call b s ex hh tn Qn tr Rn o:=by
 subst e
 have q:=ih fun k=>L.getD k AV.undef
 rw[←hl] at q
 cases o with
 | some v=>
   obtain ⟨z,y,h2,x,y1,n2,g⟩:=q
   exact ⟨z,y,h2,Ev.loop ev x,y1,Nat.le_trans n1 n2,g⟩
 | none=>
   obtain ⟨y,h2,x,y1,n2,g⟩:=q
   exact ⟨y,h2,Ev.loop ev x,y1,Nat.le_trans n1 n2,g⟩
end
theorem dz.Sq {σ ζ:Type} {call:bj} {b:Code} {s:St} {ex:h_} {hh:aw} {tn:σ→ζ→(Nat→AV)→List AV} {Qn Qn':σ→ζ→aw→Prop} {v:σ} (l:dz call b s ex hh tn Qn v) (w:∀z hk,hh.nx≤hk.nx→Qn v z hk→Qn' v z hk):dz call b s ex hh tn Qn' v:=by
 obtain ⟨z,y,hk,a,b1,c,q⟩:=l
 exact ⟨z,y,hk,a,b1,c,w z hk c q⟩
def sL (rc:RC) {σ ζ:Type} (call:bj) (b:Code) (s:St) (ex:h_) (hh:aw) (tn:σ→ζ→(Nat→AV)→List AV) (Qn:σ→ζ→aw→Prop) (v:σ):Prop:=
 ∃z y hk,Ev env call (.loop b) s ex ⟨tn v z y,hk,[],rc⟩∧Tidy hk∧hh.nx≤hk.nx∧Qn v z hk
section
variable {rc:RC} {σ ζ:Type} {call:bj} {b:Code} {s:St} {ex:h_} {hh hk:aw} {tn:σ→ζ→(Nat→AV)→List AV} {Qn:σ→ζ→aw→Prop}
theorem sL.out {i:Nat} {L:List AV} {o:σ} (v:σ) (z:ζ) (e:o=v) (ev:Ev env call b s (.exit i) ⟨L,hk,[],rc⟩) (y1:Tidy hk) (n1:hh.nx≤hk.nx) (q:Qn v z hk) (hl:L=tn v z fun k=>L.getD k AV.undef):sL rc call b s (.exit i) hh tn Qn o:=by
 subst e
 refine ⟨z,fun k=>L.getD k AV.undef,hk,?_,y1,n1,q⟩
 rw[←hl];exact Ev.out ev
theorem sL.round {L:List AV} {o o':σ} (e:o=o') (ev:Ev env call b s .normal ⟨L,hk,[],rc⟩) (n1:hh.nx≤hk.nx) (uE:(Nat→AV)→List AV) (hl:L=uE fun k=>L.getD k AV.undef) (ih:∀x,sL rc call b ⟨uE x,hk,[],rc⟩ ex hk tn Qn o'):sL rc call b s ex hh tn Qn o:=by
 subst e
 have q:=ih fun k=>L.getD k AV.undef
 rw[←hl] at q
 obtain ⟨z,y,h2,x,y1,n2,g⟩:=q
 exact ⟨z,y,h2,Ev.loop ev x,y1,Nat.le_trans n1 n2,g⟩
end
theorem pkc (rc:RC) (d:Nat) (c:Code) (ts:List AV) (h:aw) (e:h_) (h':aw) {al:List mX} {ps:List Prop} (k:Pk al [] ps) (hr:run env (dh d) 300 c ⟨ts,h,[],rc⟩ al []= .at e ⟨zQ (run env (dh d) 300 c ⟨ts,h,[],rc⟩ al []),h',[],rc⟩ [] ps):Ev env (dh d) c ⟨ts,h,[],rc⟩ e ⟨zQ (run env (dh d) 300 c ⟨ts,h,[],rc⟩ al []),h',[],rc⟩:=pk_ d c ts h [] rc e h' k hr
theorem bk.Gn {α:Type} [aA α] {h0 h:aw} {v:AV} {l:List α} (o:bk h0 h v l) (x:aP h v l) {t:TypeId} (ht:env.P.underlying t=some (.slice (aA.e α))) {i:Nat} (hi:i≤l.length):∃r,dx env t v none (some (.int .i64 ((i:Nat):Int))) none=some r∧aP h r (l.take i):=by
 by_cases j0:i<l.length
 · exact x.pre ht j0
 · have e:i=l.length:=by omega
   subst e
   refine ⟨v,?_,by rw[List.take_length];exact x⟩
   have sz:=x.at_.size
   rcases o with ⟨w,rfl⟩ | ⟨hn,p,op,rfl,hp,hg⟩
   · rcases w with rfl | ⟨p,rfl,_,_⟩
     · simp only[dx,ht,sz];rfl
     · simp only[dx,ht,sz];rfl
   · have hl:0<l.length:=by
      cases l with
      | nil=>exact absurd rfl hn
      | cons a l=>exact Nat.succ_pos _
     simp only[dx,ht,sz,Nat.le_refl,if_true,nH (len:=l.length) (cap:=l.length) none (some (.int .i64 ((l.length:Nat):Int))) (.inr ⟨rfl,rfl⟩) (.inl rfl) (Nat.zero_le _) (Nat.le_refl _)]
     rw[if_neg o!]
     simp
theorem bk.adw {α:Type} [aA α] {h0 h:aw} {v:AV} {l:List α} (o:bk h0 h v l) (x:aP h v l) {t:TypeId} (ht:env.P.underlying t=some (.slice (aA.e α))) {i:Nat} (hi:i≤l.length):∃r,dx env t v (some (.int .i64 ((i:Nat):Int))) none none=some r∧aP h r (l.drop i):=by
 by_cases j0:0<l.length
 · exact x.suf ht j0 hi
 · have e:l=[]:=List.eq_nil_of_length_eq_zero o!
   subst e
   have e:i=0:=by simpa using hi
   subst e
   refine ⟨v,?_,x⟩
   have sz:=x.at_.size
   rcases o with ⟨w,_⟩ | ⟨hn,p,op,rfl,hp,hg⟩
   · rcases w with rfl | ⟨p,rfl,_,_⟩
     · simp only[dx,ht,sz];rfl
     · simp only[dx,ht,sz];rfl
   · exact absurd rfl hn
def zS:Code:=(Try.f36.body).getD .skip
theorem qe:Try.f36.body=some zS:=by kernel_rfl
def K2:Code:=(cu zS).getD 0 .skip
def cS (s:List UInt8):Nat→Nat→Option (Bool)
 | 0,_=>none
 | eH+1,i0=>(bif (decide ((((s.g i0).toNat:Nat):Int)<97)) then (bif (decide ((((s.g i0).toNat:Nat):Int)<48)) then (bif (!decide ((((s.g i0).toNat:Nat):Int)=45)) then some false else cS s eH (i0+1)) else (bif (decide (57<(((s.g i0).toNat:Nat):Int))) then (bif (!decide ((((s.g i0).toNat:Nat):Int)=45)) then some false else cS s eH (i0+1)) else cS s eH (i0+1))) else (bif (decide (122<(((s.g i0).toNat:Nat):Int))) then (bif (decide ((((s.g i0).toNat:Nat):Int)<48)) then (bif (!decide ((((s.g i0).toNat:Nat):Int)=45)) then some false else cS s eH (i0+1)) else (bif (decide (57<(((s.g i0).toNat:Nat):Int))) then (bif (!decide ((((s.g i0).toNat:Nat):Int)=45)) then some false else cS s eH (i0+1)) else cS s eH (i0+1))) else cS s eH (i0+1)))
theorem gL {d:Nat} {h:aw} (s:List UInt8) (cH:s.length<2^60):∀(k_ i_:Nat) (_:i_+k_=(List.length s)) (x:Nat→AV) (hh:aw) (aL:Tidy hh) (bB:Has h hh),ba (dh (d)) K2 ⟨((AV.str s)::(x 1)::(x 2)::(Zn i_)::rx x 4 46 []),hh,[],.no⟩ (.exit 0) hh (fun y=>((AV.str s)::rx y 1 49 [])) (fun r y=>((AV.str s)::(y 1)::(AV.bool r)::rx y 3 47 [])) (cS s k_ i_)
 | 0,i0,mR,x,hh,aL,bB=>by
   have sn1:s.length<2^60:=cH
   have q2:(decide (((i0:Nat):Int)<((List.length s:Nat):Int)))=false:=d!
   exact ba.out rfl (pk (d) _ _ hh _ hh (CN 3<|VV (bU 3 false false .i64 ((i0:Nat):Int) ((List.length s:Nat):Int))<|BB q2<|ZZ) k!) (Grow.refl aL) k!
 | eH+1,i0,mR,x,hh,aL,bB=>by
   have sn1:s.length<2^60:=cH
   have q2:(decide (((i0:Nat):Int)<((List.length s:Nat):Int)))=true:=d!
   have w_:qO env (some .string) (some (AV.str s)) (some (Zn i0))=some (AV.int .u8 (((s.g i0).toNat:Nat):Int)):=jD (j:=i0) o!
   rcases Bool.eq_false_or_eq_true (decide ((((s.g i0).toNat:Nat):Int)<97)) with f1 | f1
   · have jk:=of_decide_eq_true f1
     rcases Bool.eq_false_or_eq_true (decide ((((s.g i0).toNat:Nat):Int)<48)) with f2 | f2
     · have ou:=of_decide_eq_true f2
       rcases Bool.eq_false_or_eq_true (!decide ((((s.g i0).toNat:Nat):Int)=45)) with f3 | f3
       · have jl:=Dp f3
         exact ba.ret false (by simp only[cS,f1,f2,f3,ak,ah]) (pk (d) _ _ hh _ hh (CN 3<|VV (bU 3 false false .i64 ((i0:Nat):Int) ((List.length s:Nat):Int))<|BB q2<|CN 2<|VV w_<|CN 2<|VV (bU 5 false true .u8 (((s.g i0).toNat:Nat):Int) 97)<|CC<|BB f1<|BV f1 (ot true f1)<|CC<|TT<|CC<|TT<|VV (bU 5 false true .u8 (((s.g i0).toNat:Nat):Int) 48)<|TT<|CC<|BB f2<|BB f2<|TT<|VV (ot true f2)<|CN 2<|TT<|CC<|TT<|VV (j6 5 false true .u8 (((s.g i0).toNat:Nat):Int) 45)<|CC<|BC f3<|ZZ) k!) (Grow.refl aL) k!
       · have jl:=Dq f3
         have u7:=fU 3 false true i0 1 o!
         exact ba.round (by simp only[cS,f1,f2,f3,ak,ah]) (pk (d) _ _ hh _ hh (CN 3<|VV (bU 3 false false .i64 ((i0:Nat):Int) ((List.length s:Nat):Int))<|BB q2<|CN 2<|VV w_<|CN 2<|VV (bU 5 false true .u8 (((s.g i0).toNat:Nat):Int) 97)<|CC<|BB f1<|BV f1 (ot true f1)<|CC<|TT<|CC<|TT<|VV (bU 5 false true .u8 (((s.g i0).toNat:Nat):Int) 48)<|TT<|CC<|BB f2<|BB f2<|TT<|VV (ot true f2)<|CN 2<|TT<|CC<|TT<|VV (j6 5 false true .u8 (((s.g i0).toNat:Nat):Int) 45)<|CC<|BC f3<|VV u7<|CC<|ZZ) k!) (Grow.refl aL) _ k! (fun x=>gL s cH eH (i0+1) o! x hh aL bB)
     · have ou:=of_decide_eq_false f2
       rcases Bool.eq_false_or_eq_true (decide (57<(((s.g i0).toNat:Nat):Int))) with f3 | f3
       · have jl:=of_decide_eq_true f3
         rcases Bool.eq_false_or_eq_true (!decide ((((s.g i0).toNat:Nat):Int)=45)) with f4 | f4
         · have jE:=Dp f4
           exact ba.ret false (by simp only[cS,f1,f2,f3,f4,ak,ah]) (pk (d) _ _ hh _ hh (CN 3<|VV (bU 3 false false .i64 ((i0:Nat):Int) ((List.length s:Nat):Int))<|BB q2<|CN 2<|VV w_<|CN 2<|VV (bU 5 false true .u8 (((s.g i0).toNat:Nat):Int) 97)<|CC<|BB f1<|BV f1 (ot true f1)<|CC<|TT<|CC<|TT<|VV (bU 5 false true .u8 (((s.g i0).toNat:Nat):Int) 48)<|TT<|CC<|BC f2<|BV f2 (b9 5 false true .u8 (((s.g i0).toNat:Nat):Int) 57)<|TT<|VV (a_ (a:=some (AV.bool true)) (b:=some (AV.bool (decide (57<(((s.g i0).toNat:Nat):Int))))) f2)<|CN 2<|BC f3<|BV f3 (j6 5 false true .u8 (((s.g i0).toNat:Nat):Int) 45)<|VV (oV (!decide ((((s.g i0).toNat:Nat):Int)=45)) false f3)<|BC f4<|ZZ) k!) (Grow.refl aL) k!
         · have jE:=Dq f4
           have u8:=fU 3 false true i0 1 o!
           exact ba.round (by simp only[cS,f1,f2,f3,f4,ak,ah]) (pk (d) _ _ hh _ hh (CN 3<|VV (bU 3 false false .i64 ((i0:Nat):Int) ((List.length s:Nat):Int))<|BB q2<|CN 2<|VV w_<|CN 2<|VV (bU 5 false true .u8 (((s.g i0).toNat:Nat):Int) 97)<|CC<|BB f1<|BV f1 (ot true f1)<|CC<|TT<|CC<|TT<|VV (bU 5 false true .u8 (((s.g i0).toNat:Nat):Int) 48)<|TT<|CC<|BC f2<|BV f2 (b9 5 false true .u8 (((s.g i0).toNat:Nat):Int) 57)<|TT<|VV (a_ (a:=some (AV.bool true)) (b:=some (AV.bool (decide (57<(((s.g i0).toNat:Nat):Int))))) f2)<|CN 2<|BC f3<|BV f3 (j6 5 false true .u8 (((s.g i0).toNat:Nat):Int) 45)<|VV (oV (!decide ((((s.g i0).toNat:Nat):Int)=45)) false f3)<|BC f4<|VV u8<|CC<|ZZ) k!) (Grow.refl aL) _ k! (fun x=>gL s cH eH (i0+1) o! x hh aL bB)
       · have jl:=of_decide_eq_false f3
         have u7:=fU 3 false true i0 1 o!
         exact ba.round (by simp only[cS,f1,f2,f3,ak,ah]) (pk (d) _ _ hh _ hh (CN 3<|VV (bU 3 false false .i64 ((i0:Nat):Int) ((List.length s:Nat):Int))<|BB q2<|CN 2<|VV w_<|CN 2<|VV (bU 5 false true .u8 (((s.g i0).toNat:Nat):Int) 97)<|CC<|BB f1<|BV f1 (ot true f1)<|CC<|TT<|CC<|TT<|VV (bU 5 false true .u8 (((s.g i0).toNat:Nat):Int) 48)<|TT<|CC<|BC f2<|BV f2 (b9 5 false true .u8 (((s.g i0).toNat:Nat):Int) 57)<|TT<|VV (a_ (a:=some (AV.bool true)) (b:=some (AV.bool (decide (57<(((s.g i0).toNat:Nat):Int))))) f2)<|CN 2<|BB f3<|BV f3 (uj false f3)<|FF<|CC<|VV u7<|CC<|ZZ) k!) (Grow.refl aL) _ k! (fun x=>gL s cH eH (i0+1) o! x hh aL bB)
   · have jk:=of_decide_eq_false f1
     rcases Bool.eq_false_or_eq_true (decide (122<(((s.g i0).toNat:Nat):Int))) with f2 | f2
     · have ou:=of_decide_eq_true f2
       rcases Bool.eq_false_or_eq_true (decide ((((s.g i0).toNat:Nat):Int)<48)) with f3 | f3
       · have jl:=of_decide_eq_true f3
         rcases Bool.eq_false_or_eq_true (!decide ((((s.g i0).toNat:Nat):Int)=45)) with f4 | f4
         · have jE:=Dp f4
           exact ba.ret false (by simp only[cS,f1,f2,f3,f4,ak,ah]) (pk (d) _ _ hh _ hh (CN 3<|VV (bU 3 false false .i64 ((i0:Nat):Int) ((List.length s:Nat):Int))<|BB q2<|CN 2<|VV w_<|CN 2<|VV (bU 5 false true .u8 (((s.g i0).toNat:Nat):Int) 97)<|CC<|BC f1<|BV f1 (b9 5 false true .u8 (((s.g i0).toNat:Nat):Int) 122)<|VV (a_ (a:=some (AV.bool true)) (b:=some (AV.bool (decide (122<(((s.g i0).toNat:Nat):Int))))) f1)<|CC<|BC f2<|BV f2 (bU 5 false true .u8 (((s.g i0).toNat:Nat):Int) 48)<|BC f2<|BB f3<|BB f3<|BV f2 (ot true f3)<|VV (oV true false f2)<|CC<|TT<|CC<|TT<|VV (j6 5 false true .u8 (((s.g i0).toNat:Nat):Int) 45)<|CC<|BC f4<|ZZ) k!) (Grow.refl aL) k!
         · have jE:=Dq f4
           have u8:=fU 3 false true i0 1 o!
           exact ba.round (by simp only[cS,f1,f2,f3,f4,ak,ah]) (pk (d) _ _ hh _ hh (CN 3<|VV (bU 3 false false .i64 ((i0:Nat):Int) ((List.length s:Nat):Int))<|BB q2<|CN 2<|VV w_<|CN 2<|VV (bU 5 false true .u8 (((s.g i0).toNat:Nat):Int) 97)<|CC<|BC f1<|BV f1 (b9 5 false true .u8 (((s.g i0).toNat:Nat):Int) 122)<|VV (a_ (a:=some (AV.bool true)) (b:=some (AV.bool (decide (122<(((s.g i0).toNat:Nat):Int))))) f1)<|CC<|BC f2<|BV f2 (bU 5 false true .u8 (((s.g i0).toNat:Nat):Int) 48)<|BC f2<|BB f3<|BB f3<|BV f2 (ot true f3)<|VV (oV true false f2)<|CC<|TT<|CC<|TT<|VV (j6 5 false true .u8 (((s.g i0).toNat:Nat):Int) 45)<|CC<|BC f4<|VV u8<|CC<|ZZ) k!) (Grow.refl aL) _ k! (fun x=>gL s cH eH (i0+1) o! x hh aL bB)
       · have jl:=of_decide_eq_false f3
         rcases Bool.eq_false_or_eq_true (decide (57<(((s.g i0).toNat:Nat):Int))) with f4 | f4
         · have jE:=of_decide_eq_true f4
           rcases Bool.eq_false_or_eq_true (!decide ((((s.g i0).toNat:Nat):Int)=45)) with f5 | f5
           · have vu:=Dp f5
             exact ba.ret false (by simp only[cS,f1,f2,f3,f4,f5,ak,ah]) (pk (d) _ _ hh _ hh (CN 3<|VV (bU 3 false false .i64 ((i0:Nat):Int) ((List.length s:Nat):Int))<|BB q2<|CN 2<|VV w_<|CN 2<|VV (bU 5 false true .u8 (((s.g i0).toNat:Nat):Int) 97)<|CC<|BC f1<|BV f1 (b9 5 false true .u8 (((s.g i0).toNat:Nat):Int) 122)<|VV (a_ (a:=some (AV.bool true)) (b:=some (AV.bool (decide (122<(((s.g i0).toNat:Nat):Int))))) f1)<|CC<|BC f2<|BV f2 (bU 5 false true .u8 (((s.g i0).toNat:Nat):Int) 48)<|BC f2<|BC f3<|BV f3 (b9 5 false true .u8 (((s.g i0).toNat:Nat):Int) 57)<|BV f2 (a_ (a:=some (AV.bool true)) (b:=some (AV.bool (decide (57<(((s.g i0).toNat:Nat):Int))))) f3)<|VV (oV (decide (57<(((s.g i0).toNat:Nat):Int))) false f2)<|CC<|BC f4<|BV f4 (j6 5 false true .u8 (((s.g i0).toNat:Nat):Int) 45)<|VV (oV (!decide ((((s.g i0).toNat:Nat):Int)=45)) false f4)<|BC f5<|ZZ) k!) (Grow.refl aL) k!
           · have vu:=Dq f5
             have u9:=fU 3 false true i0 1 o!
             exact ba.round (by simp only[cS,f1,f2,f3,f4,f5,ak,ah]) (pk (d) _ _ hh _ hh (CN 3<|VV (bU 3 false false .i64 ((i0:Nat):Int) ((List.length s:Nat):Int))<|BB q2<|CN 2<|VV w_<|CN 2<|VV (bU 5 false true .u8 (((s.g i0).toNat:Nat):Int) 97)<|CC<|BC f1<|BV f1 (b9 5 false true .u8 (((s.g i0).toNat:Nat):Int) 122)<|VV (a_ (a:=some (AV.bool true)) (b:=some (AV.bool (decide (122<(((s.g i0).toNat:Nat):Int))))) f1)<|CC<|BC f2<|BV f2 (bU 5 false true .u8 (((s.g i0).toNat:Nat):Int) 48)<|BC f2<|BC f3<|BV f3 (b9 5 false true .u8 (((s.g i0).toNat:Nat):Int) 57)<|BV f2 (a_ (a:=some (AV.bool true)) (b:=some (AV.bool (decide (57<(((s.g i0).toNat:Nat):Int))))) f3)<|VV (oV (decide (57<(((s.g i0).toNat:Nat):Int))) false f2)<|CC<|BC f4<|BV f4 (j6 5 false true .u8 (((s.g i0).toNat:Nat):Int) 45)<|VV (oV (!decide ((((s.g i0).toNat:Nat):Int)=45)) false f4)<|BC f5<|VV u9<|CC<|ZZ) k!) (Grow.refl aL) _ k! (fun x=>gL s cH eH (i0+1) o! x hh aL bB)
         · have jE:=of_decide_eq_false f4
           have u8:=fU 3 false true i0 1 o!
           exact ba.round (by simp only[cS,f1,f2,f3,f4,ak,ah]) (pk (d) _ _ hh _ hh (CN 3<|VV (bU 3 false false .i64 ((i0:Nat):Int) ((List.length s:Nat):Int))<|BB q2<|CN 2<|VV w_<|CN 2<|VV (bU 5 false true .u8 (((s.g i0).toNat:Nat):Int) 97)<|CC<|BC f1<|BV f1 (b9 5 false true .u8 (((s.g i0).toNat:Nat):Int) 122)<|VV (a_ (a:=some (AV.bool true)) (b:=some (AV.bool (decide (122<(((s.g i0).toNat:Nat):Int))))) f1)<|CC<|BC f2<|BV f2 (bU 5 false true .u8 (((s.g i0).toNat:Nat):Int) 48)<|BC f2<|BC f3<|BV f3 (b9 5 false true .u8 (((s.g i0).toNat:Nat):Int) 57)<|BV f2 (a_ (a:=some (AV.bool true)) (b:=some (AV.bool (decide (57<(((s.g i0).toNat:Nat):Int))))) f3)<|VV (oV (decide (57<(((s.g i0).toNat:Nat):Int))) false f2)<|CC<|BB f4<|BV f4 (uj false f4)<|FF<|CC<|VV u8<|CC<|ZZ) k!) (Grow.refl aL) _ k! (fun x=>gL s cH eH (i0+1) o! x hh aL bB)
     · have ou:=of_decide_eq_false f2
       have u6:=fU 3 false true i0 1 o!
       exact ba.round (by simp only[cS,f1,f2,ak,ah]) (pk (d) _ _ hh _ hh (CN 3<|VV (bU 3 false false .i64 ((i0:Nat):Int) ((List.length s:Nat):Int))<|BB q2<|CN 2<|VV w_<|CN 2<|VV (bU 5 false true .u8 (((s.g i0).toNat:Nat):Int) 97)<|CC<|BC f1<|BV f1 (b9 5 false true .u8 (((s.g i0).toNat:Nat):Int) 122)<|VV (a_ (a:=some (AV.bool true)) (b:=some (AV.bool (decide (122<(((s.g i0).toNat:Nat):Int))))) f1)<|CC<|BB f2<|BB f2<|BB f2<|BV f2 (uj false f2)<|CC<|FF<|FF<|CC<|FF<|CC<|VV u6<|CC<|ZZ) k!) (Grow.refl aL) _ k! (fun x=>gL s cH eH (i0+1) o! x hh aL bB)
def dK (s:List UInt8):Bool:=(bif (decide (((List.length s:Nat):Int)=0)) then false else (bif (decide (16<((List.length s:Nat):Int))) then false else (bif (decide ((((s.g 0).toNat:Nat):Int)<97)) then false else (bif (decide (122<(((s.g 0).toNat:Nat):Int))) then false else (match (cS s (List.length s) 0) with | none=>true | some rr8=>rr8)))))
theorem IQ {d:Nat} {h:aw} (s:List UInt8) (AT:s.length<2^60) (ch:Tidy h):dh (d+1) (.fn 36) [(AV.str s)] h= .ret (AV.bool (dK s)) h:=by
 have sn1:s.length<2^60:=AT
 rcases Bool.eq_false_or_eq_true (decide (((List.length s:Nat):Int)=0)) with f0 | f0
 · have ji:=of_decide_eq_true f0
   have e:dK s=false:=by simp only[dK,f0,ak,ah]
   rw[e]
   exact aC rfl (bh Try.func36 qe rfl (.inr rfl) (pk (d) _ _ h _ h (CN 3<|VV (lH 3 false true .i64 ((List.length s:Nat):Int) 0)<|CC<|BB f0<|BB f0<|BV f0 (ot true f0)<|CC<|TT<|TT<|TT<|CN 2<|TT<|TT<|TT<|CC<|TT<|CC<|ZZ) k!) k!) (Has.refl _) rfl
 · have ji:=of_decide_eq_false f0
   rcases Bool.eq_false_or_eq_true (decide (16<((List.length s:Nat):Int))) with f1 | f1
   · have jk:=of_decide_eq_true f1
     have e:dK s=false:=by simp only[dK,f0,f1,ak,ah]
     rw[e]
     exact aC rfl (bh Try.func36 qe rfl (.inr rfl) (pk (d) _ _ h _ h (CN 3<|VV (lH 3 false true .i64 ((List.length s:Nat):Int) 0)<|CC<|BC f0<|BC f0<|BV f0 (b9 3 false true .i64 ((List.length s:Nat):Int) 16)<|VV (a_ (a:=some (AV.bool true)) (b:=some (AV.bool (decide (16<((List.length s:Nat):Int))))) f0)<|CC<|BB f1<|BB f1<|BV f1 (ot true f1)<|CC<|TT<|TT<|TT<|CC<|TT<|CC<|ZZ) k!) k!) (Has.refl _) rfl
   · have jk:=of_decide_eq_false f1
     have Ve:qO env (some .string) (some (AV.str s)) (some (Zi 0))=some (AV.int .u8 (((s.g 0).toNat:Nat):Int)):=jD (j:=0) o!
     rcases Bool.eq_false_or_eq_true (decide ((((s.g 0).toNat:Nat):Int)<97)) with f2 | f2
     · have ou:=of_decide_eq_true f2
       have e:dK s=false:=by simp only[dK,f0,f1,f2,ak,ah]
       rw[e]
       exact aC rfl (bh Try.func36 qe rfl (.inr rfl) (pk (d) _ _ h _ h (CN 3<|VV (lH 3 false true .i64 ((List.length s:Nat):Int) 0)<|CC<|BC f0<|BC f0<|BV f0 (b9 3 false true .i64 ((List.length s:Nat):Int) 16)<|VV (a_ (a:=some (AV.bool true)) (b:=some (AV.bool (decide (16<((List.length s:Nat):Int))))) f0)<|CC<|BC f1<|BV f1 Ve<|BV f1 (bU 5 false true .u8 (((s.g 0).toNat:Nat):Int) 97)<|VV (a_ (a:=some (AV.bool true)) (b:=some (AV.bool (decide ((((s.g 0).toNat:Nat):Int)<97)))) f1)<|CC<|BB f2<|BB f2<|BV f2 (ot true f2)<|TT<|CC<|ZZ) k!) k!) (Has.refl _) rfl
     · have ou:=of_decide_eq_false f2
       have K3:qO env (some .string) (some (AV.str s)) (some (Zi 0))=some (AV.int .u8 (((s.g 0).toNat:Nat):Int)):=jD (j:=0) o!
       rcases Bool.eq_false_or_eq_true (decide (122<(((s.g 0).toNat:Nat):Int))) with f3 | f3
       · have jl:=of_decide_eq_true f3
         have e:dK s=false:=by simp only[dK,f0,f1,f2,f3,ak,ah]
         rw[e]
         exact aC rfl (bh Try.func36 qe rfl (.inr rfl) (pk (d) _ _ h _ h (CN 3<|VV (lH 3 false true .i64 ((List.length s:Nat):Int) 0)<|CC<|BC f0<|BC f0<|BV f0 (b9 3 false true .i64 ((List.length s:Nat):Int) 16)<|VV (a_ (a:=some (AV.bool true)) (b:=some (AV.bool (decide (16<((List.length s:Nat):Int))))) f0)<|CC<|BC f1<|BV f1 Ve<|BV f1 (bU 5 false true .u8 (((s.g 0).toNat:Nat):Int) 97)<|VV (a_ (a:=some (AV.bool true)) (b:=some (AV.bool (decide ((((s.g 0).toNat:Nat):Int)<97)))) f1)<|CC<|BC f2<|BV f2 K3<|BV f2 (b9 5 false true .u8 (((s.g 0).toNat:Nat):Int) 122)<|VV (a_ (a:=some (AV.bool true)) (b:=some (AV.bool (decide (122<(((s.g 0).toNat:Nat):Int))))) f2)<|BC f3<|ZZ) k!) k!) (Has.refl _) rfl
       · have jl:=of_decide_eq_false f3
         cases Gs:cS s (List.length s) 0 with
         | none=>
           obtain ⟨yl8,h9,K4,K6⟩:=ba.n Gs (gL (d:=d) (h:=h) s AT (List.length s) 0 o! (fun k_=>(((AV.str s)::AV.undef::(AV.bool false)::(Zi 0)::AV.undef::(AV.str s)::(Zn (List.length s))::(AV.bool (decide (((List.length s:Nat):Int)=0)))::(AV.bool (decide (((List.length s:Nat):Int)=0)))::(AV.str s)::(Zn (List.length s))::(AV.bool (decide (16<((List.length s:Nat):Int))))::(AV.bool (decide (16<((List.length s:Nat):Int))))::(AV.bool (decide (16<((List.length s:Nat):Int))))::(AV.str s)::(AV.int .u8 (((s.g 0).toNat:Nat):Int))::(AV.bool (decide ((((s.g 0).toNat:Nat):Int)<97)))::(AV.bool (decide ((((s.g 0).toNat:Nat):Int)<97)))::(AV.bool (decide ((((s.g 0).toNat:Nat):Int)<97)))::(AV.str s)::(AV.int .u8 (((s.g 0).toNat:Nat):Int))::(AV.bool (decide (122<(((s.g 0).toNat:Nat):Int))))::(AV.bool (decide (122<(((s.g 0).toNat:Nat):Int))))::iW 27):List AV).getD k_ AV.undef) h ch (Has.refl _))
           have K7:=K6.y
           have agO:h.nx≤h9.nx:=K6.n
           have Sr:Has h h9:=K6.a
           have e:dK s=true:=by simp only[dK,f0,f1,f2,f3,Gs,ak,ah]
           rw[e]
           exact aC rfl (bh Try.func36 qe rfl (.inr rfl) (pk (d) _ _ h _ h9 (CN 3<|VV (lH 3 false true .i64 ((List.length s:Nat):Int) 0)<|CC<|BC f0<|BC f0<|BV f0 (b9 3 false true .i64 ((List.length s:Nat):Int) 16)<|VV (a_ (a:=some (AV.bool true)) (b:=some (AV.bool (decide (16<((List.length s:Nat):Int))))) f0)<|CC<|BC f1<|BV f1 Ve<|BV f1 (bU 5 false true .u8 (((s.g 0).toNat:Nat):Int) 97)<|VV (a_ (a:=some (AV.bool true)) (b:=some (AV.bool (decide ((((s.g 0).toNat:Nat):Int)<97)))) f1)<|CC<|BC f2<|BV f2 K3<|BV f2 (b9 5 false true .u8 (((s.g 0).toNat:Nat):Int) 122)<|VV (a_ (a:=some (AV.bool true)) (b:=some (AV.bool (decide (122<(((s.g 0).toNat:Nat):Int))))) f2)<|BC f3<|LL K4<|CC<|ZZ) k!) k!) Sr rfl
         | some rr8=>
           obtain ⟨yl8,h9,K4,K6⟩:=ba.r Gs (gL (d:=d) (h:=h) s AT (List.length s) 0 o! (fun k_=>(((AV.str s)::AV.undef::(AV.bool false)::(Zi 0)::AV.undef::(AV.str s)::(Zn (List.length s))::(AV.bool (decide (((List.length s:Nat):Int)=0)))::(AV.bool (decide (((List.length s:Nat):Int)=0)))::(AV.str s)::(Zn (List.length s))::(AV.bool (decide (16<((List.length s:Nat):Int))))::(AV.bool (decide (16<((List.length s:Nat):Int))))::(AV.bool (decide (16<((List.length s:Nat):Int))))::(AV.str s)::(AV.int .u8 (((s.g 0).toNat:Nat):Int))::(AV.bool (decide ((((s.g 0).toNat:Nat):Int)<97)))::(AV.bool (decide ((((s.g 0).toNat:Nat):Int)<97)))::(AV.bool (decide ((((s.g 0).toNat:Nat):Int)<97)))::(AV.str s)::(AV.int .u8 (((s.g 0).toNat:Nat):Int))::(AV.bool (decide (122<(((s.g 0).toNat:Nat):Int))))::(AV.bool (decide (122<(((s.g 0).toNat:Nat):Int))))::iW 27):List AV).getD k_ AV.undef) h ch (Has.refl _))
           have K7:=K6.y
           have agO:h.nx≤h9.nx:=K6.n
           have Sr:Has h h9:=K6.a
           have e:dK s=rr8:=by simp only[dK,f0,f1,f2,f3,Gs,ak,ah]
           rw[e]
           exact aC rfl (bh Try.func36 qe rfl (.inr rfl) (pk (d) _ _ h _ h9 (CN 3<|VV (lH 3 false true .i64 ((List.length s:Nat):Int) 0)<|CC<|BC f0<|BC f0<|BV f0 (b9 3 false true .i64 ((List.length s:Nat):Int) 16)<|VV (a_ (a:=some (AV.bool true)) (b:=some (AV.bool (decide (16<((List.length s:Nat):Int))))) f0)<|CC<|BC f1<|BV f1 Ve<|BV f1 (bU 5 false true .u8 (((s.g 0).toNat:Nat):Int) 97)<|VV (a_ (a:=some (AV.bool true)) (b:=some (AV.bool (decide ((((s.g 0).toNat:Nat):Int)<97)))) f1)<|CC<|BC f2<|BV f2 K3<|BV f2 (b9 5 false true .u8 (((s.g 0).toNat:Nat):Int) 122)<|VV (a_ (a:=some (AV.bool true)) (b:=some (AV.bool (decide (122<(((s.g 0).toNat:Nat):Int))))) f2)<|BC f3<|LL K4<|ZZ) k!) k!) Sr rfl
def Gt:Code:=(Try.f37.body).getD .skip
theorem En:Try.f37.body=some Gt:=by kernel_rfl
def cL (n:Int):Bool:=(bif (decide ((-1000000000)≤n)) then (decide (n≤1000000000)) else false)
theorem Eo {d:Nat} {h:aw} (n:Int) (ch:Tidy h):dh (d+1) (.fn 37) [(Zi n)] h= .ret (AV.bool (cL n)) h:=by
 rcases Bool.eq_false_or_eq_true (decide ((-1000000000)≤n)) with f0 | f0
 · have ji:=of_decide_eq_true f0
   have e:cL n=(decide (n≤1000000000)):=by simp only[cL,f0,ak,ah]
   rw[e]
   exact aC rfl (bh Try.func37 En rfl (.inr rfl) (pk (d) _ _ h _ h (CN 2<|VV (qd 3 false true .i64 n (-1000000000))<|CC<|BC f0<|BV f0 (qT 3 false true .i64 n 1000000000)<|VV (oV (decide (n≤1000000000)) false f0)<|CC<|ZZ) k!) k!) (Has.refl _) rfl
 · have ji:=of_decide_eq_false f0
   have e:cL n=false:=by simp only[cL,f0,ak,ah]
   rw[e]
   exact aC rfl (bh Try.func37 En rfl (.inr rfl) (pk (d) _ _ h _ h (CN 2<|VV (qd 3 false true .i64 n (-1000000000))<|CC<|BB f0<|BV f0 (uj false f0)<|CC<|ZZ) k!) k!) (Has.refl _) rfl
end
end Go.Proofs.aG
