import Derived.Test.YtkffioplnoajdaaGreatW0
import Derived.Test.YtkffioplnoajdaaGreatW1
import Derived.Test.YtkffioplnoajdaaGreatW16
import Derived.Test.YtkffioplnoajdaaGreatW15
import Derived.Test.YtkffioplnoajdaaGreatW10
import Derived.Test.YtkffioplnoajdaaGreatW12
import Derived.Test.YtkffioplnoajdaaGreatA7
namespace Go.Proofs.aP
open Go.Proofs Ab
set_option maxRecDepth 100000
set_option maxHeartbeats 4000000
set_option linter.unusedVariables false
set_option linter.unusedSimpArgs false
noncomputable def jJ:Code:=(Tryz.f3.body).getD .skip
theorem hI:Tryz.f3.body=some jJ:=by kernel_rfl
noncomputable def m_:Code:=(ko jJ).getD 1 .skip
noncomputable def na:Code:=(ko jJ).getD 9 .skip
noncomputable def jK:Code:=(ko jJ).getD 13 .skip
def cT (j:cz) (ai:List Int):Bool:=(bif (bif (fO j 8) then true else (decide (100<((ai.length:Nat):Int)))) then true else (bif (!decide ((bG j)=(bu j))) then false else (bif (!decide (((aY j).2)=((aX j).2))) then false else (bif (!(dj ((aY j).1) ((aX j).1))) then false else (bif (bif (!(((aZ j ai).1)==((aW j ai).1))) then true else (!decide (((aZ j ai).2)=((aW j ai).2)))) then false else (bif (decide (((bl j ai).1)=((bk j ai).1))) then (bif (decide (((bl j ai).2)=((bk j ai).2))) then true else false) else false))))))
theorem Cy {d:Nat} {h:au} {ax:AV} (j:cz) (ai:List Int) (bH:aL.ok h j) (bm:b_ h .i64 3 ax ai) (bW:Tidy h):cR (d+15) (.fn 3) [(AV.agg [j.aj,j.ag]),ax] h= .ret (AV.bool (cT j ai)) h:=by
 have fG:=bm.small
 have dP:=bH.1.small
 have dQ:=bH.2.small
 obtain ⟨h1,bM,cx,jc,aQ,cA⟩:=j_ bW (aM.cells [j.aj,j.ag] 25 false)
 have bt:Has h h1:=cA
 obtain ⟨Af,oP⟩:∃Af:Nat→AV,Ev env (cR (d+14)) m_ ⟨((AV.agg [j.aj,j.ag])::ax::(Pt h.nx)::AV.undef::(AV.bool false)::g4 85),h1,[],.no⟩ .normal ⟨((AV.agg [j.aj,j.ag])::ax::(Pt h.nx)::AV.undef::(AV.bool false)::AV.undef::AV.undef::AV.undef::AV.undef::AV.undef::AV.undef::AV.undef::AV.undef::rx Af 13 6 ((AV.bool (bif (fO j 8) then true else (decide (100<((ai.length:Nat):Int)))))::g4 70)),h1,[],.no⟩:=by
  have k2:=R_ (d:=d+13) j 8 (aL.mono bt bH) cx
  rcases Bool.eq_false_or_eq_true (fO j 8) with f0 | f0
  · have ev:=pk (d+14) m_ ((AV.agg [j.aj,j.ag])::ax::(Pt h.nx)::AV.undef::(AV.bool false)::g4 85) h1 .normal h1 (MM (aw 25 0 (AV.agg [j.aj,j.ag]) aQ k!)<|EE k2<|CC<|BB f0<|BB f0<|BV f0 (uN true f0)<|ZZ) k!
    rw[show (bif (fO j 8) then true else (decide (100<((ai.length:Nat):Int))))=true by simp only[f0,cond_true,cond_false]]
    exact kO ev k!
  · have CP:b6 (some (.slice 3)) (some ax)=some (Zn ai.length):=bm.len
    have ev:=pk (d+14) m_ ((AV.agg [j.aj,j.ag])::ax::(Pt h.nx)::AV.undef::(AV.bool false)::g4 85) h1 .normal h1 (MM (aw 25 0 (AV.agg [j.aj,j.ag]) aQ k!)<|EE k2<|CC<|BC f0<|BV f0 CP<|BV f0 (bR 3 false true .i64 ((ai.length:Nat):Int) 100)<|VV (bA (a:=some (AV.bool true)) (b:=some (AV.bool (decide (100<((ai.length:Nat):Int))))) f0)<|ZZ) k!
    rw[show (bif (fO j 8) then true else (decide (100<((ai.length:Nat):Int))))=(decide (100<((ai.length:Nat):Int))) by simp only[f0,cond_true,cond_false]]
    exact kO ev k!
 rcases Bool.eq_false_or_eq_true (bif (fO j 8) then true else (decide (100<((ai.length:Nat):Int)))) with f0 | f0
 · have k4:(cR (d+14)) (.fn 5) [] h1= .ret (.bool true) h1:=rfl
   have e:cT j ai=true:=by simp only[cT,f0,cond_true,cond_false]
   rw[e]
   exact aD rfl (bb Tryz.func3 hI rfl (.inr rfl) (pk (d+14) _ _ h _ h1 (NN bM (fun i=>(Pt i))<|CC<|LL oP<|BB f0<|EE k4<|CC<|ZZ) k!) k!) bt rfl
 · obtain ⟨z4,h6,Jv,fq,fz5,ZA⟩:=Sa (d:=d+2) j (aL.mono bt bH) cx
   have jf:=fq.y
   have NM:h1.nx≤h6.nx:=fq.n
   have ia:Has h h6:=bt.trans fq.a
   have aaW:=fz5.small
   obtain ⟨z7,h9,FQ,eh,fz8,ah4⟩:=R' (d:=d+10) j (aL.mono ia bH) jf
   have nz:=eh.y
   have FN:h6.nx≤h9.nx:=eh.n
   have hZ:Has h h9:=ia.trans eh.a
   have ZB:Has h6 h9:=eh.a
   have afU:=fz8.small
   have Ff:=Ba (d:=d+3) j (aL.mono hZ bH) nz
   have FJ:=Bd (d:=d+11) j (aL.mono hZ bH) nz
   rcases Bool.eq_false_or_eq_true (!decide ((bG j)=(bu j))) with f1 | f1
   · have dC:=BI f1
     have JH:AV.same 20 (AV.agg [j.aj,j.ag]) (AV.agg [j.aj,j.ag])=true:=fj 18 (oX bH.1.same (oX bH.2.same Ix))
     have e:cT j ai=false:=by simp only[cT,f0,f1,cond_true,cond_false]
     rw[e]
     exact aD rfl (bb Tryz.func3 hI rfl (.inr rfl) (pk (d+14) _ _ h _ h9 (NN bM (fun i=>(Pt i))<|CC<|LL oP<|BM f0 (aw 25 0 (AV.agg [j.aj,j.ag]) aQ k!)<|EE Jv<|CN 5<|MM (aw 25 0 (AV.agg [j.aj,j.ag]) (fq.a _ _ aQ) k!)<|EE FQ<|CN 5<|MM (aw 25 0 (AV.agg [j.aj,j.ag]) (eh.a _ _ (fq.a _ _ aQ)) k!)<|MM (aw 25 0 (AV.agg [j.aj,j.ag]) (eh.a _ _ (fq.a _ _ aQ)) k!)<|EE Ff<|EE FJ<|VV (eu 29 false false .i64 (bG j) (bu j))<|CC<|BB f1<|BB f1<|BV f1 (uN true f1)<|CC<|TT<|TT<|TT<|TT<|CC<|HH (aw 25 0 (AV.agg [j.aj,j.ag]) (eh.a _ _ (fq.a _ _ aQ)) k!)<|HH JH<|HH (aw 25 0 (AV.agg [j.aj,j.ag]) (eh.a _ _ (fq.a _ _ aQ)) k!)<|HH JH<|HH (aw 25 0 (AV.agg [j.aj,j.ag]) (eh.a _ _ (fq.a _ _ aQ)) k!)<|HH JH<|TT<|CC<|ZZ) k!) k!) hZ rfl
   · have dC:=BJ f1
     rcases Bool.eq_false_or_eq_true (!decide (((aY j).2)=((aX j).2))) with f2 | f2
     · have jw:=BI f2
       have JI:AV.same 20 (AV.agg [j.aj,j.ag]) (AV.agg [j.aj,j.ag])=true:=fj 18 (oX bH.1.same (oX bH.2.same Ix))
       have e:cT j ai=false:=by simp only[cT,f0,f1,f2,cond_true,cond_false]
       rw[e]
       exact aD rfl (bb Tryz.func3 hI rfl (.inr rfl) (pk (d+14) _ _ h _ h9 (NN bM (fun i=>(Pt i))<|CC<|LL oP<|BM f0 (aw 25 0 (AV.agg [j.aj,j.ag]) aQ k!)<|EE Jv<|CN 5<|MM (aw 25 0 (AV.agg [j.aj,j.ag]) (fq.a _ _ aQ) k!)<|EE FQ<|CN 5<|MM (aw 25 0 (AV.agg [j.aj,j.ag]) (eh.a _ _ (fq.a _ _ aQ)) k!)<|MM (aw 25 0 (AV.agg [j.aj,j.ag]) (eh.a _ _ (fq.a _ _ aQ)) k!)<|EE Ff<|EE FJ<|VV (eu 29 false false .i64 (bG j) (bu j))<|CC<|BC f1<|BC f1<|BV f1 (eu 29 false false .i64 ((aY j).2) ((aX j).2))<|VV (bA (a:=some (AV.bool true)) (b:=some (AV.bool (!decide (((aY j).2)=((aX j).2))))) f1)<|CC<|BB f2<|BB f2<|BB f2<|BV f2 (uN true f2)<|HH (aw 25 0 (AV.agg [j.aj,j.ag]) (eh.a _ _ (fq.a _ _ aQ)) k!)<|HH JI<|HH (aw 25 0 (AV.agg [j.aj,j.ag]) (eh.a _ _ (fq.a _ _ aQ)) k!)<|HH JI<|HH (aw 25 0 (AV.agg [j.aj,j.ag]) (eh.a _ _ (fq.a _ _ aQ)) k!)<|HH JI<|TT<|CC<|ZZ) k!) k!) hZ rfl
     · have jw:=BJ f2
       have k14:=Wq (d:=d+13) ((aY j).1) ((aX j).1) (fz5.has ZB) fz8 nz
       have LP:AV.same 20 (AV.agg [j.aj,j.ag]) (AV.agg [j.aj,j.ag])=true:=fj 18 (oX bH.1.same (oX bH.2.same Ix))
       rcases Bool.eq_false_or_eq_true (!(dj ((aY j).1) ((aX j).1))) with f3 | f3
       · have e:cT j ai=false:=by simp only[cT,f0,f1,f2,f3,cond_true,cond_false]
         rw[e]
         exact aD rfl (bb Tryz.func3 hI rfl (.inr rfl) (pk (d+14) _ _ h _ h9 (NN bM (fun i=>(Pt i))<|CC<|LL oP<|BM f0 (aw 25 0 (AV.agg [j.aj,j.ag]) aQ k!)<|EE Jv<|CN 5<|MM (aw 25 0 (AV.agg [j.aj,j.ag]) (fq.a _ _ aQ) k!)<|EE FQ<|CN 5<|MM (aw 25 0 (AV.agg [j.aj,j.ag]) (eh.a _ _ (fq.a _ _ aQ)) k!)<|MM (aw 25 0 (AV.agg [j.aj,j.ag]) (eh.a _ _ (fq.a _ _ aQ)) k!)<|EE Ff<|EE FJ<|VV (eu 29 false false .i64 (bG j) (bu j))<|CC<|BC f1<|BC f1<|BV f1 (eu 29 false false .i64 ((aY j).2) ((aX j).2))<|VV (bA (a:=some (AV.bool true)) (b:=some (AV.bool (!decide (((aY j).2)=((aX j).2))))) f1)<|CC<|BC f2<|BC f2<|BB f2<|EE k14<|BC f2<|VV (bA (a:=some (AV.bool true)) (b:=some (AV.bool (!(dj ((aY j).1) ((aX j).1))))) f2)<|HH (aw 25 0 (AV.agg [j.aj,j.ag]) (eh.a _ _ (fq.a _ _ aQ)) k!)<|HH LP<|HH (aw 25 0 (AV.agg [j.aj,j.ag]) (eh.a _ _ (fq.a _ _ aQ)) k!)<|HH LP<|HH (aw 25 0 (AV.agg [j.aj,j.ag]) (eh.a _ _ (fq.a _ _ aQ)) k!)<|HH LP<|BC f3<|ZZ) k!) k!) hZ rfl
       · have k17:=Hr (d:=d+1) j ai (aL.mono hZ bH) (bm.has hZ) nz
         have k18:=Ht (d:=d+9) j ai (aL.mono hZ bH) (bm.has hZ) nz
         obtain ⟨OD,Qg⟩:∃OD:Nat→AV,Ev env (cR (d+14)) na ⟨((AV.agg [j.aj,j.ag])::ax::(Pt h.nx)::AV.undef::(AV.bool false)::z4::(Zi ((aZ j ai).2))::z7::(Zi ((aW j ai).2))::(AV.bool ((aZ j ai).1))::(AV.bool ((aW j ai).1))::AV.undef::AV.undef::rx Af 13 6 ((AV.bool (bif (fO j 8) then true else (decide (100<((ai.length:Nat):Int)))))::AV.undef::(AV.tuple [z4,(Zi ((aY j).2))])::(AV.agg [j.aj,j.ag])::(AV.tuple [z4,(Zi ((aY j).2))])::z4::(Zi ((aY j).2))::(AV.tuple [z7,(Zi ((aX j).2))])::(AV.agg [j.aj,j.ag])::(AV.tuple [z7,(Zi ((aX j).2))])::z7::(Zi ((aX j).2))::(AV.agg [j.aj,j.ag])::(Zi (bG j))::(AV.agg [j.aj,j.ag])::(Zi (bu j))::(AV.bool (!decide ((bG j)=(bu j))))::(AV.bool (!decide ((bG j)=(bu j))))::(Zi ((aY j).2))::(Zi ((aX j).2))::(AV.bool (!decide (((aY j).2)=((aX j).2))))::(AV.bool (!decide (((aY j).2)=((aX j).2))))::(AV.bool (!decide (((aY j).2)=((aX j).2))))::z4::z7::(AV.bool (dj ((aY j).1) ((aX j).1)))::(AV.bool (!(dj ((aY j).1) ((aX j).1))))::(AV.bool (!(dj ((aY j).1) ((aX j).1))))::(AV.tuple [(AV.bool ((aZ j ai).1)),(Zi ((aZ j ai).2))])::(AV.agg [j.aj,j.ag])::ax::(AV.tuple [(AV.bool ((aZ j ai).1)),(Zi ((aZ j ai).2))])::(AV.bool ((aZ j ai).1))::(Zi ((aZ j ai).2))::(AV.tuple [(AV.bool ((aW j ai).1)),(Zi ((aW j ai).2))])::(AV.agg [j.aj,j.ag])::ax::(AV.tuple [(AV.bool ((aW j ai).1)),(Zi ((aW j ai).2))])::(AV.bool ((aW j ai).1))::(Zi ((aW j ai).2))::g4 31)),h9,[],.no⟩ .normal ⟨((AV.agg [j.aj,j.ag])::ax::(Pt h.nx)::AV.undef::(AV.bool false)::z4::(Zi ((aZ j ai).2))::z7::(Zi ((aW j ai).2))::(AV.bool ((aZ j ai).1))::(AV.bool ((aW j ai).1))::AV.undef::AV.undef::rx Af 13 6 ((AV.bool (bif (fO j 8) then true else (decide (100<((ai.length:Nat):Int)))))::AV.undef::(AV.tuple [z4,(Zi ((aY j).2))])::(AV.agg [j.aj,j.ag])::(AV.tuple [z4,(Zi ((aY j).2))])::z4::(Zi ((aY j).2))::(AV.tuple [z7,(Zi ((aX j).2))])::(AV.agg [j.aj,j.ag])::(AV.tuple [z7,(Zi ((aX j).2))])::z7::(Zi ((aX j).2))::(AV.agg [j.aj,j.ag])::(Zi (bG j))::(AV.agg [j.aj,j.ag])::(Zi (bu j))::(AV.bool (!decide ((bG j)=(bu j))))::(AV.bool (!decide ((bG j)=(bu j))))::(Zi ((aY j).2))::(Zi ((aX j).2))::(AV.bool (!decide (((aY j).2)=((aX j).2))))::(AV.bool (!decide (((aY j).2)=((aX j).2))))::(AV.bool (!decide (((aY j).2)=((aX j).2))))::z4::z7::(AV.bool (dj ((aY j).1) ((aX j).1)))::(AV.bool (!(dj ((aY j).1) ((aX j).1))))::(AV.bool (!(dj ((aY j).1) ((aX j).1))))::(AV.tuple [(AV.bool ((aZ j ai).1)),(Zi ((aZ j ai).2))])::(AV.agg [j.aj,j.ag])::ax::(AV.tuple [(AV.bool ((aZ j ai).1)),(Zi ((aZ j ai).2))])::(AV.bool ((aZ j ai).1))::(Zi ((aZ j ai).2))::(AV.tuple [(AV.bool ((aW j ai).1)),(Zi ((aW j ai).2))])::(AV.agg [j.aj,j.ag])::ax::(AV.tuple [(AV.bool ((aW j ai).1)),(Zi ((aW j ai).2))])::(AV.bool ((aW j ai).1))::(Zi ((aW j ai).2))::rx OD 59 7 ((AV.bool (bif (!(((aZ j ai).1)==((aW j ai).1))) then true else (!decide (((aZ j ai).2)=((aW j ai).2)))))::g4 23))),h9,[],.no⟩:=by
          rcases Bool.eq_false_or_eq_true (!(((aZ j ai).1)==((aW j ai).1))) with f0 | f0
          · have ev:=pk (d+14) na ((AV.agg [j.aj,j.ag])::ax::(Pt h.nx)::AV.undef::(AV.bool false)::z4::(Zi ((aZ j ai).2))::z7::(Zi ((aW j ai).2))::(AV.bool ((aZ j ai).1))::(AV.bool ((aW j ai).1))::AV.undef::AV.undef::rx Af 13 6 ((AV.bool (bif (fO j 8) then true else (decide (100<((ai.length:Nat):Int)))))::AV.undef::(AV.tuple [z4,(Zi ((aY j).2))])::(AV.agg [j.aj,j.ag])::(AV.tuple [z4,(Zi ((aY j).2))])::z4::(Zi ((aY j).2))::(AV.tuple [z7,(Zi ((aX j).2))])::(AV.agg [j.aj,j.ag])::(AV.tuple [z7,(Zi ((aX j).2))])::z7::(Zi ((aX j).2))::(AV.agg [j.aj,j.ag])::(Zi (bG j))::(AV.agg [j.aj,j.ag])::(Zi (bu j))::(AV.bool (!decide ((bG j)=(bu j))))::(AV.bool (!decide ((bG j)=(bu j))))::(Zi ((aY j).2))::(Zi ((aX j).2))::(AV.bool (!decide (((aY j).2)=((aX j).2))))::(AV.bool (!decide (((aY j).2)=((aX j).2))))::(AV.bool (!decide (((aY j).2)=((aX j).2))))::z4::z7::(AV.bool (dj ((aY j).1) ((aX j).1)))::(AV.bool (!(dj ((aY j).1) ((aX j).1))))::(AV.bool (!(dj ((aY j).1) ((aX j).1))))::(AV.tuple [(AV.bool ((aZ j ai).1)),(Zi ((aZ j ai).2))])::(AV.agg [j.aj,j.ag])::ax::(AV.tuple [(AV.bool ((aZ j ai).1)),(Zi ((aZ j ai).2))])::(AV.bool ((aZ j ai).1))::(Zi ((aZ j ai).2))::(AV.tuple [(AV.bool ((aW j ai).1)),(Zi ((aW j ai).2))])::(AV.agg [j.aj,j.ag])::ax::(AV.tuple [(AV.bool ((aW j ai).1)),(Zi ((aW j ai).2))])::(AV.bool ((aW j ai).1))::(Zi ((aW j ai).2))::g4 31)) h9 .normal h9 (CN 4<|BB f0<|BB f0<|BV f0 (uN true f0)<|ZZ) k!
            rw[show (bif (!(((aZ j ai).1)==((aW j ai).1))) then true else (!decide (((aZ j ai).2)=((aW j ai).2))))=true by simp only[f0,cond_true,cond_false]]
            exact kO ev k!
          · have ev:=pk (d+14) na ((AV.agg [j.aj,j.ag])::ax::(Pt h.nx)::AV.undef::(AV.bool false)::z4::(Zi ((aZ j ai).2))::z7::(Zi ((aW j ai).2))::(AV.bool ((aZ j ai).1))::(AV.bool ((aW j ai).1))::AV.undef::AV.undef::rx Af 13 6 ((AV.bool (bif (fO j 8) then true else (decide (100<((ai.length:Nat):Int)))))::AV.undef::(AV.tuple [z4,(Zi ((aY j).2))])::(AV.agg [j.aj,j.ag])::(AV.tuple [z4,(Zi ((aY j).2))])::z4::(Zi ((aY j).2))::(AV.tuple [z7,(Zi ((aX j).2))])::(AV.agg [j.aj,j.ag])::(AV.tuple [z7,(Zi ((aX j).2))])::z7::(Zi ((aX j).2))::(AV.agg [j.aj,j.ag])::(Zi (bG j))::(AV.agg [j.aj,j.ag])::(Zi (bu j))::(AV.bool (!decide ((bG j)=(bu j))))::(AV.bool (!decide ((bG j)=(bu j))))::(Zi ((aY j).2))::(Zi ((aX j).2))::(AV.bool (!decide (((aY j).2)=((aX j).2))))::(AV.bool (!decide (((aY j).2)=((aX j).2))))::(AV.bool (!decide (((aY j).2)=((aX j).2))))::z4::z7::(AV.bool (dj ((aY j).1) ((aX j).1)))::(AV.bool (!(dj ((aY j).1) ((aX j).1))))::(AV.bool (!(dj ((aY j).1) ((aX j).1))))::(AV.tuple [(AV.bool ((aZ j ai).1)),(Zi ((aZ j ai).2))])::(AV.agg [j.aj,j.ag])::ax::(AV.tuple [(AV.bool ((aZ j ai).1)),(Zi ((aZ j ai).2))])::(AV.bool ((aZ j ai).1))::(Zi ((aZ j ai).2))::(AV.tuple [(AV.bool ((aW j ai).1)),(Zi ((aW j ai).2))])::(AV.agg [j.aj,j.ag])::ax::(AV.tuple [(AV.bool ((aW j ai).1)),(Zi ((aW j ai).2))])::(AV.bool ((aW j ai).1))::(Zi ((aW j ai).2))::g4 31)) h9 .normal h9 (CN 4<|BC f0<|BC f0<|BV f0 (eu 29 false false .i64 ((aZ j ai).2) ((aW j ai).2))<|VV (bA (a:=some (AV.bool true)) (b:=some (AV.bool (!decide (((aZ j ai).2)=((aW j ai).2))))) f0)<|ZZ) k!
            rw[show (bif (!(((aZ j ai).1)==((aW j ai).1))) then true else (!decide (((aZ j ai).2)=((aW j ai).2))))=(!decide (((aZ j ai).2)=((aW j ai).2))) by simp only[f0,cond_true,cond_false]]
            exact kO ev k!
         rcases Bool.eq_false_or_eq_true (bif (!(((aZ j ai).1)==((aW j ai).1))) then true else (!decide (((aZ j ai).2)=((aW j ai).2)))) with f4 | f4
         · have e:cT j ai=false:=by simp only[cT,f0,f1,f2,f3,f4,cond_true,cond_false]
           rw[e]
           exact aD rfl (bb Tryz.func3 hI rfl (.inr rfl) (pk (d+14) _ _ h _ h9 (NN bM (fun i=>(Pt i))<|CC<|LL oP<|BM f0 (aw 25 0 (AV.agg [j.aj,j.ag]) aQ k!)<|EE Jv<|CN 5<|MM (aw 25 0 (AV.agg [j.aj,j.ag]) (fq.a _ _ aQ) k!)<|EE FQ<|CN 5<|MM (aw 25 0 (AV.agg [j.aj,j.ag]) (eh.a _ _ (fq.a _ _ aQ)) k!)<|MM (aw 25 0 (AV.agg [j.aj,j.ag]) (eh.a _ _ (fq.a _ _ aQ)) k!)<|EE Ff<|EE FJ<|VV (eu 29 false false .i64 (bG j) (bu j))<|CC<|BC f1<|BC f1<|BV f1 (eu 29 false false .i64 ((aY j).2) ((aX j).2))<|VV (bA (a:=some (AV.bool true)) (b:=some (AV.bool (!decide (((aY j).2)=((aX j).2))))) f1)<|CC<|BC f2<|BC f2<|BB f2<|EE k14<|BC f2<|VV (bA (a:=some (AV.bool true)) (b:=some (AV.bool (!(dj ((aY j).1) ((aX j).1))))) f2)<|HH (aw 25 0 (AV.agg [j.aj,j.ag]) (eh.a _ _ (fq.a _ _ aQ)) k!)<|HH LP<|HH (aw 25 0 (AV.agg [j.aj,j.ag]) (eh.a _ _ (fq.a _ _ aQ)) k!)<|HH LP<|HH (aw 25 0 (AV.agg [j.aj,j.ag]) (eh.a _ _ (fq.a _ _ aQ)) k!)<|HH LP<|BM f3 (aw 25 0 (AV.agg [j.aj,j.ag]) (eh.a _ _ (fq.a _ _ aQ)) k!)<|CC<|EE k17<|CN 5<|MM (aw 25 0 (AV.agg [j.aj,j.ag]) (eh.a _ _ (fq.a _ _ aQ)) k!)<|CC<|EE k18<|CN 5<|LL Qg<|BC f4<|ZZ) k!) k!) hZ rfl
         · have k21:=OC (d:=d) j ai (aL.mono hZ bH) (bm.has hZ) nz
           have k22:=OA (d:=d+8) j ai (aL.mono hZ bH) (bm.has hZ) nz
           obtain ⟨af7,ZC⟩:∃af7:Nat→AV,Ev env (cR (d+14)) jK ⟨((AV.agg [j.aj,j.ag])::ax::(Pt h.nx)::AV.undef::(AV.bool false)::z4::(Zi ((bl j ai).2))::z7::(Zi ((bk j ai).2))::(AV.bool ((aZ j ai).1))::(AV.bool ((aW j ai).1))::(Zi ((bl j ai).1))::(Zi ((bk j ai).1))::rx Af 13 6 ((AV.bool (bif (fO j 8) then true else (decide (100<((ai.length:Nat):Int)))))::AV.undef::(AV.tuple [z4,(Zi ((aY j).2))])::(AV.agg [j.aj,j.ag])::(AV.tuple [z4,(Zi ((aY j).2))])::z4::(Zi ((aY j).2))::(AV.tuple [z7,(Zi ((aX j).2))])::(AV.agg [j.aj,j.ag])::(AV.tuple [z7,(Zi ((aX j).2))])::z7::(Zi ((aX j).2))::(AV.agg [j.aj,j.ag])::(Zi (bG j))::(AV.agg [j.aj,j.ag])::(Zi (bu j))::(AV.bool (!decide ((bG j)=(bu j))))::(AV.bool (!decide ((bG j)=(bu j))))::(Zi ((aY j).2))::(Zi ((aX j).2))::(AV.bool (!decide (((aY j).2)=((aX j).2))))::(AV.bool (!decide (((aY j).2)=((aX j).2))))::(AV.bool (!decide (((aY j).2)=((aX j).2))))::z4::z7::(AV.bool (dj ((aY j).1) ((aX j).1)))::(AV.bool (!(dj ((aY j).1) ((aX j).1))))::(AV.bool (!(dj ((aY j).1) ((aX j).1))))::(AV.tuple [(AV.bool ((aZ j ai).1)),(Zi ((aZ j ai).2))])::(AV.agg [j.aj,j.ag])::ax::(AV.tuple [(AV.bool ((aZ j ai).1)),(Zi ((aZ j ai).2))])::(AV.bool ((aZ j ai).1))::(Zi ((aZ j ai).2))::(AV.tuple [(AV.bool ((aW j ai).1)),(Zi ((aW j ai).2))])::(AV.agg [j.aj,j.ag])::ax::(AV.tuple [(AV.bool ((aW j ai).1)),(Zi ((aW j ai).2))])::(AV.bool ((aW j ai).1))::(Zi ((aW j ai).2))::rx OD 59 7 ((AV.bool (bif (!(((aZ j ai).1)==((aW j ai).1))) then true else (!decide (((aZ j ai).2)=((aW j ai).2)))))::(AV.tuple [(Zi ((bl j ai).1)),(Zi ((bl j ai).2))])::(AV.agg [j.aj,j.ag])::ax::(AV.tuple [(Zi ((bl j ai).1)),(Zi ((bl j ai).2))])::(Zi ((bl j ai).1))::(Zi ((bl j ai).2))::(AV.tuple [(Zi ((bk j ai).1)),(Zi ((bk j ai).2))])::(AV.agg [j.aj,j.ag])::ax::(AV.tuple [(Zi ((bk j ai).1)),(Zi ((bk j ai).2))])::(Zi ((bk j ai).1))::(Zi ((bk j ai).2))::g4 11))),h9,[],.no⟩ .normal ⟨((AV.agg [j.aj,j.ag])::ax::(Pt h.nx)::AV.undef::(AV.bool (bif (decide (((bl j ai).1)=((bk j ai).1))) then (bif (decide (((bl j ai).2)=((bk j ai).2))) then true else false) else false))::z4::(Zi ((bl j ai).2))::z7::(Zi ((bk j ai).2))::(AV.bool ((aZ j ai).1))::(AV.bool ((aW j ai).1))::(Zi ((bl j ai).1))::(Zi ((bk j ai).1))::rx Af 13 6 ((AV.bool (bif (fO j 8) then true else (decide (100<((ai.length:Nat):Int)))))::AV.undef::(AV.tuple [z4,(Zi ((aY j).2))])::(AV.agg [j.aj,j.ag])::(AV.tuple [z4,(Zi ((aY j).2))])::z4::(Zi ((aY j).2))::(AV.tuple [z7,(Zi ((aX j).2))])::(AV.agg [j.aj,j.ag])::(AV.tuple [z7,(Zi ((aX j).2))])::z7::(Zi ((aX j).2))::(AV.agg [j.aj,j.ag])::(Zi (bG j))::(AV.agg [j.aj,j.ag])::(Zi (bu j))::(AV.bool (!decide ((bG j)=(bu j))))::(AV.bool (!decide ((bG j)=(bu j))))::(Zi ((aY j).2))::(Zi ((aX j).2))::(AV.bool (!decide (((aY j).2)=((aX j).2))))::(AV.bool (!decide (((aY j).2)=((aX j).2))))::(AV.bool (!decide (((aY j).2)=((aX j).2))))::z4::z7::(AV.bool (dj ((aY j).1) ((aX j).1)))::(AV.bool (!(dj ((aY j).1) ((aX j).1))))::(AV.bool (!(dj ((aY j).1) ((aX j).1))))::(AV.tuple [(AV.bool ((aZ j ai).1)),(Zi ((aZ j ai).2))])::(AV.agg [j.aj,j.ag])::ax::(AV.tuple [(AV.bool ((aZ j ai).1)),(Zi ((aZ j ai).2))])::(AV.bool ((aZ j ai).1))::(Zi ((aZ j ai).2))::(AV.tuple [(AV.bool ((aW j ai).1)),(Zi ((aW j ai).2))])::(AV.agg [j.aj,j.ag])::ax::(AV.tuple [(AV.bool ((aW j ai).1)),(Zi ((aW j ai).2))])::(AV.bool ((aW j ai).1))::(Zi ((aW j ai).2))::rx OD 59 7 ((AV.bool (bif (!(((aZ j ai).1)==((aW j ai).1))) then true else (!decide (((aZ j ai).2)=((aW j ai).2)))))::(AV.tuple [(Zi ((bl j ai).1)),(Zi ((bl j ai).2))])::(AV.agg [j.aj,j.ag])::ax::(AV.tuple [(Zi ((bl j ai).1)),(Zi ((bl j ai).2))])::(Zi ((bl j ai).1))::(Zi ((bl j ai).2))::(AV.tuple [(Zi ((bk j ai).1)),(Zi ((bk j ai).2))])::(AV.agg [j.aj,j.ag])::ax::(AV.tuple [(Zi ((bk j ai).1)),(Zi ((bk j ai).2))])::(Zi ((bk j ai).1))::(Zi ((bk j ai).2))::rx af7 79 11 []))),h9,[],.no⟩:=by
            rcases Bool.eq_false_or_eq_true (decide (((bl j ai).1)=((bk j ai).1))) with f0 | f0
            · have dO:=of_decide_eq_true f0
              rcases Bool.eq_false_or_eq_true (decide (((bl j ai).2)=((bk j ai).2))) with f1 | f1
              · have dC:=of_decide_eq_true f1
                have k25:(cR (d+14)) (.fn 5) [] h9= .ret (.bool true) h9:=rfl
                have ev:=pk (d+14) jK ((AV.agg [j.aj,j.ag])::ax::(Pt h.nx)::AV.undef::(AV.bool false)::z4::(Zi ((bl j ai).2))::z7::(Zi ((bk j ai).2))::(AV.bool ((aZ j ai).1))::(AV.bool ((aW j ai).1))::(Zi ((bl j ai).1))::(Zi ((bk j ai).1))::rx Af 13 6 ((AV.bool (bif (fO j 8) then true else (decide (100<((ai.length:Nat):Int)))))::AV.undef::(AV.tuple [z4,(Zi ((aY j).2))])::(AV.agg [j.aj,j.ag])::(AV.tuple [z4,(Zi ((aY j).2))])::z4::(Zi ((aY j).2))::(AV.tuple [z7,(Zi ((aX j).2))])::(AV.agg [j.aj,j.ag])::(AV.tuple [z7,(Zi ((aX j).2))])::z7::(Zi ((aX j).2))::(AV.agg [j.aj,j.ag])::(Zi (bG j))::(AV.agg [j.aj,j.ag])::(Zi (bu j))::(AV.bool (!decide ((bG j)=(bu j))))::(AV.bool (!decide ((bG j)=(bu j))))::(Zi ((aY j).2))::(Zi ((aX j).2))::(AV.bool (!decide (((aY j).2)=((aX j).2))))::(AV.bool (!decide (((aY j).2)=((aX j).2))))::(AV.bool (!decide (((aY j).2)=((aX j).2))))::z4::z7::(AV.bool (dj ((aY j).1) ((aX j).1)))::(AV.bool (!(dj ((aY j).1) ((aX j).1))))::(AV.bool (!(dj ((aY j).1) ((aX j).1))))::(AV.tuple [(AV.bool ((aZ j ai).1)),(Zi ((aZ j ai).2))])::(AV.agg [j.aj,j.ag])::ax::(AV.tuple [(AV.bool ((aZ j ai).1)),(Zi ((aZ j ai).2))])::(AV.bool ((aZ j ai).1))::(Zi ((aZ j ai).2))::(AV.tuple [(AV.bool ((aW j ai).1)),(Zi ((aW j ai).2))])::(AV.agg [j.aj,j.ag])::ax::(AV.tuple [(AV.bool ((aW j ai).1)),(Zi ((aW j ai).2))])::(AV.bool ((aW j ai).1))::(Zi ((aW j ai).2))::rx OD 59 7 ((AV.bool (bif (!(((aZ j ai).1)==((aW j ai).1))) then true else (!decide (((aZ j ai).2)=((aW j ai).2)))))::(AV.tuple [(Zi ((bl j ai).1)),(Zi ((bl j ai).2))])::(AV.agg [j.aj,j.ag])::ax::(AV.tuple [(Zi ((bl j ai).1)),(Zi ((bl j ai).2))])::(Zi ((bl j ai).1))::(Zi ((bl j ai).2))::(AV.tuple [(Zi ((bk j ai).1)),(Zi ((bk j ai).2))])::(AV.agg [j.aj,j.ag])::ax::(AV.tuple [(Zi ((bk j ai).1)),(Zi ((bk j ai).2))])::(Zi ((bk j ai).1))::(Zi ((bk j ai).2))::g4 11))) h9 .normal h9 (CN 2<|VV (lr 3 false false .i64 ((bl j ai).1) ((bk j ai).1))<|CC<|BC f0<|BC f0<|BV f0 (lr 29 false false .i64 ((bl j ai).2) ((bk j ai).2))<|VV (kI (decide (((bl j ai).2)=((bk j ai).2))) false f0)<|CC<|BB f1<|EE k25<|VV (kI true false f1)<|CC<|ZZ) k!
                rw[show (bif (decide (((bl j ai).1)=((bk j ai).1))) then (bif (decide (((bl j ai).2)=((bk j ai).2))) then true else false) else false)=true by simp only[f0,f1,cond_true,cond_false]]
                exact kO ev k!
              · have dC:=of_decide_eq_false f1
                have ev:=pk (d+14) jK ((AV.agg [j.aj,j.ag])::ax::(Pt h.nx)::AV.undef::(AV.bool false)::z4::(Zi ((bl j ai).2))::z7::(Zi ((bk j ai).2))::(AV.bool ((aZ j ai).1))::(AV.bool ((aW j ai).1))::(Zi ((bl j ai).1))::(Zi ((bk j ai).1))::rx Af 13 6 ((AV.bool (bif (fO j 8) then true else (decide (100<((ai.length:Nat):Int)))))::AV.undef::(AV.tuple [z4,(Zi ((aY j).2))])::(AV.agg [j.aj,j.ag])::(AV.tuple [z4,(Zi ((aY j).2))])::z4::(Zi ((aY j).2))::(AV.tuple [z7,(Zi ((aX j).2))])::(AV.agg [j.aj,j.ag])::(AV.tuple [z7,(Zi ((aX j).2))])::z7::(Zi ((aX j).2))::(AV.agg [j.aj,j.ag])::(Zi (bG j))::(AV.agg [j.aj,j.ag])::(Zi (bu j))::(AV.bool (!decide ((bG j)=(bu j))))::(AV.bool (!decide ((bG j)=(bu j))))::(Zi ((aY j).2))::(Zi ((aX j).2))::(AV.bool (!decide (((aY j).2)=((aX j).2))))::(AV.bool (!decide (((aY j).2)=((aX j).2))))::(AV.bool (!decide (((aY j).2)=((aX j).2))))::z4::z7::(AV.bool (dj ((aY j).1) ((aX j).1)))::(AV.bool (!(dj ((aY j).1) ((aX j).1))))::(AV.bool (!(dj ((aY j).1) ((aX j).1))))::(AV.tuple [(AV.bool ((aZ j ai).1)),(Zi ((aZ j ai).2))])::(AV.agg [j.aj,j.ag])::ax::(AV.tuple [(AV.bool ((aZ j ai).1)),(Zi ((aZ j ai).2))])::(AV.bool ((aZ j ai).1))::(Zi ((aZ j ai).2))::(AV.tuple [(AV.bool ((aW j ai).1)),(Zi ((aW j ai).2))])::(AV.agg [j.aj,j.ag])::ax::(AV.tuple [(AV.bool ((aW j ai).1)),(Zi ((aW j ai).2))])::(AV.bool ((aW j ai).1))::(Zi ((aW j ai).2))::rx OD 59 7 ((AV.bool (bif (!(((aZ j ai).1)==((aW j ai).1))) then true else (!decide (((aZ j ai).2)=((aW j ai).2)))))::(AV.tuple [(Zi ((bl j ai).1)),(Zi ((bl j ai).2))])::(AV.agg [j.aj,j.ag])::ax::(AV.tuple [(Zi ((bl j ai).1)),(Zi ((bl j ai).2))])::(Zi ((bl j ai).1))::(Zi ((bl j ai).2))::(AV.tuple [(Zi ((bk j ai).1)),(Zi ((bk j ai).2))])::(AV.agg [j.aj,j.ag])::ax::(AV.tuple [(Zi ((bk j ai).1)),(Zi ((bk j ai).2))])::(Zi ((bk j ai).1))::(Zi ((bk j ai).2))::g4 11))) h9 .normal h9 (CN 2<|VV (lr 3 false false .i64 ((bl j ai).1) ((bk j ai).1))<|CC<|BC f0<|BC f0<|BV f0 (lr 29 false false .i64 ((bl j ai).2) ((bk j ai).2))<|VV (kI (decide (((bl j ai).2)=((bk j ai).2))) false f0)<|CC<|BV f1 (tS false f1)<|CC<|ZZ) k!
                rw[show (bif (decide (((bl j ai).1)=((bk j ai).1))) then (bif (decide (((bl j ai).2)=((bk j ai).2))) then true else false) else false)=false by simp only[f0,f1,cond_true,cond_false]]
                exact kO ev k!
            · have dO:=of_decide_eq_false f0
              have ev:=pk (d+14) jK ((AV.agg [j.aj,j.ag])::ax::(Pt h.nx)::AV.undef::(AV.bool false)::z4::(Zi ((bl j ai).2))::z7::(Zi ((bk j ai).2))::(AV.bool ((aZ j ai).1))::(AV.bool ((aW j ai).1))::(Zi ((bl j ai).1))::(Zi ((bk j ai).1))::rx Af 13 6 ((AV.bool (bif (fO j 8) then true else (decide (100<((ai.length:Nat):Int)))))::AV.undef::(AV.tuple [z4,(Zi ((aY j).2))])::(AV.agg [j.aj,j.ag])::(AV.tuple [z4,(Zi ((aY j).2))])::z4::(Zi ((aY j).2))::(AV.tuple [z7,(Zi ((aX j).2))])::(AV.agg [j.aj,j.ag])::(AV.tuple [z7,(Zi ((aX j).2))])::z7::(Zi ((aX j).2))::(AV.agg [j.aj,j.ag])::(Zi (bG j))::(AV.agg [j.aj,j.ag])::(Zi (bu j))::(AV.bool (!decide ((bG j)=(bu j))))::(AV.bool (!decide ((bG j)=(bu j))))::(Zi ((aY j).2))::(Zi ((aX j).2))::(AV.bool (!decide (((aY j).2)=((aX j).2))))::(AV.bool (!decide (((aY j).2)=((aX j).2))))::(AV.bool (!decide (((aY j).2)=((aX j).2))))::z4::z7::(AV.bool (dj ((aY j).1) ((aX j).1)))::(AV.bool (!(dj ((aY j).1) ((aX j).1))))::(AV.bool (!(dj ((aY j).1) ((aX j).1))))::(AV.tuple [(AV.bool ((aZ j ai).1)),(Zi ((aZ j ai).2))])::(AV.agg [j.aj,j.ag])::ax::(AV.tuple [(AV.bool ((aZ j ai).1)),(Zi ((aZ j ai).2))])::(AV.bool ((aZ j ai).1))::(Zi ((aZ j ai).2))::(AV.tuple [(AV.bool ((aW j ai).1)),(Zi ((aW j ai).2))])::(AV.agg [j.aj,j.ag])::ax::(AV.tuple [(AV.bool ((aW j ai).1)),(Zi ((aW j ai).2))])::(AV.bool ((aW j ai).1))::(Zi ((aW j ai).2))::rx OD 59 7 ((AV.bool (bif (!(((aZ j ai).1)==((aW j ai).1))) then true else (!decide (((aZ j ai).2)=((aW j ai).2)))))::(AV.tuple [(Zi ((bl j ai).1)),(Zi ((bl j ai).2))])::(AV.agg [j.aj,j.ag])::ax::(AV.tuple [(Zi ((bl j ai).1)),(Zi ((bl j ai).2))])::(Zi ((bl j ai).1))::(Zi ((bl j ai).2))::(AV.tuple [(Zi ((bk j ai).1)),(Zi ((bk j ai).2))])::(AV.agg [j.aj,j.ag])::ax::(AV.tuple [(Zi ((bk j ai).1)),(Zi ((bk j ai).2))])::(Zi ((bk j ai).1))::(Zi ((bk j ai).2))::g4 11))) h9 .normal h9 (CN 2<|VV (lr 3 false false .i64 ((bl j ai).1) ((bk j ai).1))<|CC<|BB f0<|BB f0<|BV f0 (tS false f0)<|CC<|FF<|CN 2<|ZZ) k!
              rw[show (bif (decide (((bl j ai).1)=((bk j ai).1))) then (bif (decide (((bl j ai).2)=((bk j ai).2))) then true else false) else false)=false by simp only[f0,cond_true,cond_false]]
              exact kO ev k!
           have e:cT j ai=(bif (decide (((bl j ai).1)=((bk j ai).1))) then (bif (decide (((bl j ai).2)=((bk j ai).2))) then true else false) else false):=by simp only[cT,f0,f1,f2,f3,f4,cond_true,cond_false]
           rw[e]
           exact aD rfl (bb Tryz.func3 hI rfl (.inr rfl) (pk (d+14) _ _ h _ h9 (NN bM (fun i=>(Pt i))<|CC<|LL oP<|BM f0 (aw 25 0 (AV.agg [j.aj,j.ag]) aQ k!)<|EE Jv<|CN 5<|MM (aw 25 0 (AV.agg [j.aj,j.ag]) (fq.a _ _ aQ) k!)<|EE FQ<|CN 5<|MM (aw 25 0 (AV.agg [j.aj,j.ag]) (eh.a _ _ (fq.a _ _ aQ)) k!)<|MM (aw 25 0 (AV.agg [j.aj,j.ag]) (eh.a _ _ (fq.a _ _ aQ)) k!)<|EE Ff<|EE FJ<|VV (eu 29 false false .i64 (bG j) (bu j))<|CC<|BC f1<|BC f1<|BV f1 (eu 29 false false .i64 ((aY j).2) ((aX j).2))<|VV (bA (a:=some (AV.bool true)) (b:=some (AV.bool (!decide (((aY j).2)=((aX j).2))))) f1)<|CC<|BC f2<|BC f2<|BB f2<|EE k14<|BC f2<|VV (bA (a:=some (AV.bool true)) (b:=some (AV.bool (!(dj ((aY j).1) ((aX j).1))))) f2)<|HH (aw 25 0 (AV.agg [j.aj,j.ag]) (eh.a _ _ (fq.a _ _ aQ)) k!)<|HH LP<|HH (aw 25 0 (AV.agg [j.aj,j.ag]) (eh.a _ _ (fq.a _ _ aQ)) k!)<|HH LP<|HH (aw 25 0 (AV.agg [j.aj,j.ag]) (eh.a _ _ (fq.a _ _ aQ)) k!)<|HH LP<|BM f3 (aw 25 0 (AV.agg [j.aj,j.ag]) (eh.a _ _ (fq.a _ _ aQ)) k!)<|CC<|EE k17<|CN 5<|MM (aw 25 0 (AV.agg [j.aj,j.ag]) (eh.a _ _ (fq.a _ _ aQ)) k!)<|CC<|EE k18<|CN 5<|LL Qg<|BM f4 (aw 25 0 (AV.agg [j.aj,j.ag]) (eh.a _ _ (fq.a _ _ aQ)) k!)<|CC<|EE k21<|CN 5<|MM (aw 25 0 (AV.agg [j.aj,j.ag]) (eh.a _ _ (fq.a _ _ aQ)) k!)<|CC<|EE k22<|CN 5<|LL ZC<|ZZ) k!) k!) hZ rfl
section
variable {j:cz} {s:List Int}
theorem aaZ:∀k i,fv s j k i=eP s j k i
 | 0,i=>rfl
 | k+1,i=>by rw[fv,eP,aaZ k (i+1)]
theorem aa0 {v:Int}:∀k i,jl j v s k i=gV j v s k i
 | 0,i=>rfl
 | k+1,i=>by rw[jl,gV,aa0 k (i+1)]
theorem aa1 (F:eA j) (T:Tm j s):∀(k i:Nat) (a:List Bool) (b:List Int),i+k=j.ab.length→
 (∃x,gM j s k (i:Int) a b=Sum.inl x∧∀q,i≤q→q<j.ab.length→NO j s q)∨(gM j s k (i:Int) a b=Sum.inr false∧∃q,q<j.ab.length∧¬NO j s q)
 | 0,i,a,b,h=> .inl ⟨(a,b),rfl,fun q x y=>by omega⟩
 | k+1,i,a,b,h=>by
   have hi:i<j.ab.length:=by omega
   rw[gM,decide_eq_true (by omega:(i:Int)<((j.ab.length:Nat):Int)),cond_true,Int.toNat_natCast,aa0]
   rcases Wc F T hi _ 0 (Nat.zero_add _) with ⟨e,f⟩ | ⟨e,f⟩
   · rw[e,show ((i:Int)+1)=((i+1:Nat):Int) by omega]
     rcases aa1 F T k (i+1) (oT j a b (i:Int) (s.g i)).1 (oT j a b (i:Int) (s.g i)).2 o! with ⟨x,e1,e3⟩ | g
     · refine .inl ⟨x,e1,fun q x y=>?_⟩
       by_cases z:q=i
       · rw[z];exact fun u hu=>f u (Nat.zero_le _) o!
       · exact e3 q o! y
     · exact .inr g
   · rw[e];exact .inr ⟨rfl,i,hi,f⟩
theorem OE (F:eA j) (hl:s.length=j.ab.length) (hr:j.af.length=0):lQ j s=true↔Tm j s∧(∀i,i<j.ab.length→NO j s i)∧Room j s:=by
 have room:Room j s:=fun r h=>by omega
 rw[lQ,hl,aaZ]
 rcases Wb F hl _ 0 (Nat.zero_add _) with ⟨e0,f0⟩ | ⟨e0,f0⟩
 · have T:Tm j s:=fun i hi=>f0 i (Nat.zero_le _) o!
   rw[e0,show Int.toNat (((j.ab.length:Nat):Int) - 0)=j.ab.length by omega,show (0:Int)=((0:Nat):Int) from rfl]
   rcases aa1 F T j.ab.length 0 (aK j).2.1 (aK j).2.2 (Nat.zero_add _) with ⟨x,e1,e3⟩ | ⟨e1,q,hq,f1⟩
   · rw[e1];exact ⟨fun _=>⟨T,fun i hi=>e3 i (Nat.zero_le _) hi,room⟩,fun _=>rfl⟩
   · rw[e1];exact ⟨(fun z=>by cases z),fun z=>absurd (z.2.1 q hq) f1⟩
 · rw[e0];exact ⟨(fun z=>by cases z),fun z=>absurd z.1 f0⟩
theorem ZD {a b:Bool} (h:a=true↔b=true):a=b:=by
 cases a<;>cases b<;>first | rfl | (have:=h.1 rfl;cases this) | (have:=h.2 rfl;cases this)
theorem Wr (F:eA j) (hl:s.length=j.ab.length):rM j s=nU j s:=by
 have key:Tm j s∧(∀i,i<j.ab.length→NO j s i)∧Room j s↔Tm j s∧∀i,i<j.ab.length→NO j s i∧RF j s i:=
  ⟨fun ⟨T,n,r⟩=>⟨T,fun i hi=>⟨n i hi,(core F T).1 r i hi⟩⟩,fun ⟨T,z⟩=>⟨T,fun i hi=>(z i hi).1,(core F T).2 fun i hi=>(z i hi).2⟩⟩
 refine ZD ?_
 rw[RW F hl,←key,rM]
 by_cases r:0<j.af.length
 · rw[decide_eq_true r,cond_true];exact R8 F hl
 · rw[decide_eq_false r,cond_false];exact OE F hl o!
theorem z9 (j:cz):bG j=bu j:=Wo j fun _ _=>⟨congrArg List.length (A8 j),Rx j⟩
theorem Ws (j:cz):aY j=aX j:=by
 rw[aY,aX,z9,A8]
theorem Me (j:cz) (s:List Int):aZ j s=aW j s:=by
 rw[aZ,aW,cH,z9]
 by_cases a:bu j=0
 · rw[decide_eq_true a,Bool.not_true,cond_false,cond_true]
   by_cases b:((s.length:Nat):Int)=((j.ab.length:Nat):Int)
   · rw[decide_eq_true b,Bool.not_true,cond_false,cond_false]
     rw[Wr (kW ((z9 j).trans a)) o!];rfl
   · rw[decide_eq_false b];rfl
 · rw[decide_eq_false a,Bool.not_false,cond_true,cond_false,decide_eq_false a];rfl
theorem Wt:∀k i v,iE j s k i v=kH s j k i v
 | 0,i,v=>rfl
 | k+1,i,v=>by
   rw[iE,kH,cV,Int.toNat_natCast,Wt k (i+1)]
theorem Sc (j:cz) (s:List Int):bl j s=bk j s:=by
 rw[bl,bk,Me]
 by_cases a:(aW j s).2=0
 · rw[decide_eq_true a,Bool.not_true,cond_false,cond_true,nL,rO,Wt]
 · rw[decide_eq_false a];rfl
theorem Qh (a:List Int):∀k i,mu a a k i=none
 | 0,i=>rfl
 | k+1,i=>by rw[mu,decide_eq_true rfl,Bool.not_true,cond_false,Qh a k]
theorem Sd (a:List Int):dj a a=true:=by
 rw[dj,decide_eq_true rfl,Bool.not_true,cond_false,Qh]
end
theorem Mf (j:cz) (s:List Int):cT j s=true:=by
 rw[cT]
 cases bif fO j 8 then true else decide (100<((s.length:Nat):Int)) with
 | true=>rfl
 | false=>
   rw[z9,Ws,Me,Sc,Sd,decide_eq_true rfl,decide_eq_true rfl,decide_eq_true rfl,decide_eq_true rfl,decide_eq_true rfl]
   cases (aW j s).1<;>rfl
open Go.ChangeShapes Go.WideShapes Go.RowKit
structure Gx (φ φ':Ph) (h h':au) (w:World):Prop where
 ok:OK env φ' h' w
 le:φ.le φ'
 ro:yT h'
 has:Has h h'
 nx:h.nx≤h'.nx
 tidy:Tidy h'
theorem Gx.refl {φ:Ph} {h:au} {w:World} (ok:OK env φ h w) (ro:yT h) (y:Tidy h):Gx φ φ h h w:=⟨ok,Ph.le_refl _,ro,Has.refl _,Nat.le_refl _,y⟩
theorem Gx.trans {a b c:Ph} {h1 h2 h3:au} {w:World} (x:Gx a b h1 h2 w) (y:Gx b c h2 h3 w):Gx a c h1 h3 w:=⟨y.ok,Ph.le_trans x.le y.le,y.ro,x.has.trans y.has,Nat.le_trans x.nx y.nx,y.tidy⟩
section
variable {H:Type} (enc:TypeId×Value→H) (w:World) (base:Nat) (spare:Nat→Bool) (held:Bool)
def Small (t:TypeId) (d:DataW H):Prop:=(DataW.weights env.P t d).all (· ≤reachBytes)=true
theorem Small.all {e:TypeId}:∀{l:List (DataW H)},(DataW.weightsAll env.P e l).all (· ≤reachBytes)=true→∀d∈l,Small e d
 | [],_,d,hd=>by cases hd
 | x::l,h,d,hd=>by
   rw[DataW.weightsAll,List.all_append,Bool.and_eq_true] at h
   rcases List.mem_cons.1 hd with rfl | hd
   · exact h.1
   · exact Small.all h.2 d hd
theorem Small.struct {t:TypeId} {fs:Array Field} {parts:List (DataW H)} (ht:env.P.underlying t=some (.struct fs)) (h:Small t (.agg parts)):(DataW.weightsEach env.P (fs.toList.map (·.type)) parts).all (· ≤reachBytes)=true:=by
 unfold Small at h
 rw[DataW.weights,ht] at h
 exact h
theorem Small.dB {t:TypeId} {ts:List TypeId} {d:DataW H} {ds:List (DataW H)} (h:(DataW.weightsEach env.P (t::ts) (d::ds)).all (· ≤reachBytes)=true):Small t d∧(DataW.weightsEach env.P ts ds).all (· ≤reachBytes)=true:=by
 rw[DataW.weightsEach,List.all_append,Bool.and_eq_true] at h
 exact h
theorem Jz {n:Nat} (h:n≤reachBytes):n<2^60:=Nat.lt_of_le_of_lt h (by unfold reachBytes;decide)
theorem aS.Ps {α:Type} [aL α] {h:au} {v:AV} {l:List α} {m:Nat} (x:aS h v l) (e:AV.map m=v):False:=by
 rcases x.known with rfl | rfl | ⟨p,o,n,c,b,rfl,_⟩<;>cases e
def oD {D:Type} (t:TypeId) (sz:Nat) (c:D→List AV) (ok:au→D→Prop):Prop:=
 ∀(φ:Ph) (h:au),OK env φ h w→yT h→Tidy h→∀(cs:List Value) (y:DataW H×List MemPlace) (n:Nat),cs.length=sz→Small t y.1→DataW.trod enc env.P w base spare held n t cs=some y→
  ∃φ' h' x,Gx φ φ' h h' w∧LR φ' (c x) cs∧ok h' x
variable {enc w base spare held}
theorem nM {k:IntKind} {t:TypeId} (ht:env.P.underlying t=some (.int k)):oD enc w base spare held t 1 (fun x:Int=> [.int k x]) (fun _ _=>True):=fun φ h ok ro y cs z n _ hw hv=>by
 obtain ⟨m,rfl,_,_⟩:=DataW.trod_int ht hv
 exact ⟨φ,h,m,Gx.refl ok ro y,LR.cons (VR.int k m) (LR.nil _),trivial⟩
theorem Hw {t:TypeId} (ht:env.P.underlying t=some .string):oD enc w base spare held t 1 (fun x:List UInt8=> [.str x]) (fun _ x=>x.length<2^60):=fun φ h ok ro y cs z n _ hw hv=>by
 obtain ⟨s,rfl,rfl,hs⟩:=DataW.trod_string ht hv
 refine ⟨φ,h,s.data.toList,Gx.refl ok ro y,LR.cons (VR.str s) (LR.nil _),?_⟩
 unfold Small at hw
 rw[DataW.weights,List.all_cons,Bool.and_eq_true] at hw
 exact Jz (of_decide_eq_true hw.1)
theorem qE {α:Type} [aL α] {t:TypeId} (ht:env.P.underlying t=some (.slice (aL.e α))) (hs:env.P.cellsOf (aL.e α)=aL.n α) (hby:0<env.P.bytesOf (aL.e α)) (hm:∀(h:au) (x:α) m,aL.ok h x→AV.map m ∉ aL.c x)
 (he:oD enc w base spare held (aL.e α) (aL.n α) (aL.c (α:=α)) aL.ok):oD enc w base spare held t 1 (fun x:AV×List α=> [x.1]) (fun h x=>aS h x.1 x.2):=fun φ h ok ro y cs z fuel _ hw hv=>by
 have MI:=aL.pos (α:=α)
 rcases DataW.trod_slice ht hv with ⟨rfl,_⟩ | ⟨a,len,cap,elems,rest,n,_,rfl,rfl,hb,hlc,hcm,adJ,gS,_,_⟩
 · exact ⟨φ,h,(.aH,[]),Gx.refl ok ro y,LR.cons VR.aH (LR.nil _),⟨aL.size,(Nat.zero_mul _).symm,Nat.pow_pos (by decide),rfl,.inl rfl⟩,.inl rfl,fun x hx=>by cases hx⟩
 rcases Nat.eq_zero_or_pos len with h0 | h0
 · subst h0
   exact ⟨φ,h,(.eN,[]),Gx.refl ok ro y,LR.cons (VR.eN a cap) (LR.nil _),⟨aL.size,(Nat.zero_mul _).symm,Nat.pow_pos (by decide),rfl,.inl rfl⟩,.inr (.inl rfl),fun x hx=>by cases hx⟩
 have B_:len<2^60∧(DataW.weightsAll env.P (aL.e α) (elems.map (·.1))).all (· ≤reachBytes)=true:=by
  unfold Small at hw
  rw[DataW.weights,ht] at hw
  simp only[List.all_cons,List.all_append,Bool.and_eq_true,List.length_map] at hw
  refine ⟨Jz (Nat.le_trans ?_ (of_decide_eq_true hw.1)),hw.2.1⟩
  rw[adJ]
  exact Nat.le_trans (Nat.le_add_right _ _) (Nat.le_mul_of_pos_right _ hby)
 have all:∀m,m≤len→∃(φ':Ph) (h':au) (xs:List α),Gx φ φ' h h' w∧xs.length=m∧(∀x∈xs,aL.ok h' x)∧∀(i:Nat) (x:α),xs[i]? =some x→∀j v,(aL.c x)[j]? =some v→∃y,w.cell? ((a.add (i*aL.n α)).add j)=some y∧VR φ' v y:=by
  intro m
  induction m with
  | zero=>exact fun _=>⟨φ,h,[],Gx.refl ok ro y,rfl,fun _ hx=>(by cases hx),fun i xi hx=>(by simp at hx)⟩
  | succ m ih=>
    intro WN
    obtain ⟨φ1,h1,xs,g1,hl,hq,hx⟩:=ih o!
    have h2:=gS m o!
    rw[List.getElem?_eq_getElem o!,hs] at h2
    simp only[Option.bind_eq_some_iff] at h2
    obtain ⟨ci,hc1,hc2⟩:=h2
    obtain ⟨_,Sm,GQ⟩:=World.cells?_some hc1
    obtain ⟨φ2,h2,x,g2,Bk,qI⟩:=he φ1 h1 g1.ok g1.ro g1.tidy ci _ n Sm (Small.all B_.2 _ (List.mem_map.2 ⟨_,List.getElem_mem _,rfl⟩)) hc2
    refine ⟨φ2,h2,xs++[x],g1.trans g2,by simp [hl],fun z hz=>?_,fun i z hz=>?_⟩
    · rcases List.mem_append.1 hz with h | h
      · exact aL.mono g2.has (hq z h)
      · simp at h;subst h;exact qI
    · by_cases hi:i<xs.length
      · rw[List.getElem?_append_left hi] at hz
        intro j v hj
        obtain ⟨q,e1,e2⟩:=hx i z hz j v hj
        exact ⟨q,e1,e2.mono g2.le⟩
      · rw[List.getElem?_append_right o!] at hz
        have:i - xs.length=0:=by
         have:=(List.getElem?_eq_some_iff.1 hz).1
         simp at this;omega
        rw[this] at hz
        simp at hz;subst hz
        have:i=m:=by omega
        subst this
        intro j v hj
        have rj:j<(aL.c x).length:=(List.getElem?_eq_some_iff.1 hj).1
        have ZE:j<ci.length:=by rw[←Bk.1];exact rj
        exact ⟨ci[j],by rw[GQ j (by rw[Sm] at ZE;exact ZE),List.getElem?_eq_getElem ZE],Bk.2 j v _ hj (List.getElem?_eq_getElem ZE)⟩
 obtain ⟨φ1,h1,xs,g1,hl,hq,hx⟩:=all len (Nat.le_refl _)
 have K3:=eB aL.len xs
 have z_:a.spot=none:=by
  have hx0:xs[0]? =some (xs[0]'o!):=List.getElem?_eq_getElem o!
  obtain ⟨y,hy,_⟩:=hx 0 _ hx0 0 ((aL.c (xs[0]'o!))[0]'(by rw[aL.len];exact MI)) (List.getElem?_eq_getElem _)
  simp only[Nat.zero_mul,Addr.add,if_true] at hy
  unfold World.cell? at hy
  split at hy
  · cases hsp:a.spot with
    | none=>rfl
    | some _=>rw[hsp] at hy;simp at hy
  · cases hy
 have Wu:∀i j,(a.add (i*aL.n α)).add j=⟨a.block,a.off+(i*aL.n α+j),none⟩:=by
  intro i j
  obtain ⟨b,o,sp⟩:=a
  simp only at z_
  subst z_
  unfold Addr.add
  by_cases h1:i*aL.n α=0<;>by_cases h2:j=0<;>simp [h1,h2,Nat.add_assoc]
 have eY:xs.flatMap aL.c≠ []:=by
  intro e
  have:=congrArg List.length e
  rw[K3,hl] at this
  have:=Nat.mul_pos h0 MI
  simp at *
  omega
 obtain ⟨h',hn,tc,hle,adK,aiq,hg,hold,hS⟩:=g1.ok.show g1.ro (b:=a.block) (off:=a.off) (e:=aL.e α) eY (fun m WN=>by
  have:AV.map m∈xs.flatMap aL.c:=by rw[WN];simp
  obtain ⟨z,hz,hmz⟩:=List.mem_flatMap.1 this
  exact hm h1 z m (hq z hz) hmz) (fun k v hk=>by
  have Fs:k<(xs.flatMap aL.c).length:=(List.getElem?_eq_some_iff.1 hk).1
  have hdm:k/aL.n α*aL.n α+k%aL.n α=k:=by rw[Nat.mul_comm];exact Nat.div_add_mod k _
  have hi:k/aL.n α<xs.length:=by
   rw[K3] at Fs
   exact (Nat.div_lt_iff_lt_mul MI).2 Fs
  have hk2:=hk
  rw[←hdm,oh aL.len _ _ _ hi (Nat.mod_lt _ MI)] at hk2
  have hgi:xs[k/aL.n α]? =some (xs.g (k/aL.n α)):=by
   rw[List.g,List.getD_eq_getElem?_getD,List.getElem?_eq_getElem hi];rfl
  obtain ⟨y,hy,hvr⟩:=hx _ _ hgi _ v hk2
  rw[Wu,hdm] at hy
  exact ⟨y,hy,hvr⟩)
 have hVR:=VR.slice (φ:=φ1.add h1.nx ⟨a.block,a.off,0⟩) 0 len cap false hS
 have has:Has h1 h':=yX g1.tidy hn
 refine ⟨_,h',(.slice h1.nx 0 len cap false,xs),g1.trans ⟨tc,hle,adK,has,by omega,oc g1.tidy hn⟩,LR.cons ?_ (LR.nil _),?_⟩
 · obtain ⟨b,o,sp⟩:=a
   simp only at z_
   subst z_
   exact hVR
 · subst hl
   exact ⟨⟨aL.size,K3,B_.1,rfl,.inr ⟨h1.nx,0,_,cap,false,_,_,true,rfl,hlc,hg,fun j _=>by rw[Nat.zero_add]⟩⟩,.inr (.inr ⟨_,_,_,_,_,rfl,fun e=>by cases e⟩),fun x hx=>aL.mono has (hq x hx)⟩
end
open Go.ChangeShapes Go.WideShapes Go.RowKit
section
variable {H:Type} {enc:TypeId×Value→H} {w:World} {base:Nat} {spare:Nat→Bool} {held:Bool}
theorem OF {α:Type} {t e_:TypeId} {n_:Nat} {c_:α→List AV} {ok_:au→α→Prop} (JN:bU env e_=some n_) (hlen:∀x,(c_ x).length=n_) (aa5:0<n_) (aa2:∀{h h':au} {x:α},Has h h'→ok_ h x→ok_ h' x) (hg_:∀(l:List α) (i:Nat) (hi:i<l.length),∃x,l[i]? =some x∧∀j,j<n_→(l.flatMap c_)[i*n_+j]? =(c_ x)[j]?) (ht:env.P.underlying t=some (.slice e_)) (hs:env.P.cellsOf e_=n_) (hby:0<env.P.bytesOf e_) (hm:∀(h:au) (x:α) m,ok_ h x→AV.map m ∉ c_ x)
 (he:oD enc w base spare held e_ n_ c_ ok_):oD enc w base spare held t 1 (fun x:AV×List α=> [x.1]) (fun h x=>nQ env h e_ n_ x.1 x.2.length (x.2.flatMap c_)∧(x.1= .aH∨x.1= .eN∨∃p o m c b,x.1= .slice p o m c b)∧∀y∈x.2,ok_ h y):=fun φ h ok ro y cs z fuel _ hw hv=>by
 have MI:=aa5
 rcases DataW.trod_slice ht hv with ⟨rfl,_⟩ | ⟨a,len,cap,elems,rest,n,_,rfl,rfl,hb,hlc,hcm,adJ,gS,_,_⟩
 · exact ⟨φ,h,(.aH,[]),Gx.refl ok ro y,LR.cons VR.aH (LR.nil _),⟨JN,(Nat.zero_mul _).symm,Nat.pow_pos (by decide),rfl,.inl rfl⟩,.inl rfl,fun x hx=>by cases hx⟩
 rcases Nat.eq_zero_or_pos len with h0 | h0
 · subst h0
   exact ⟨φ,h,(.eN,[]),Gx.refl ok ro y,LR.cons (VR.eN a cap) (LR.nil _),⟨JN,(Nat.zero_mul _).symm,Nat.pow_pos (by decide),rfl,.inl rfl⟩,.inr (.inl rfl),fun x hx=>by cases hx⟩
 have B_:len<2^60∧(DataW.weightsAll env.P (e_) (elems.map (·.1))).all (· ≤reachBytes)=true:=by
  unfold Small at hw
  rw[DataW.weights,ht] at hw
  simp only[List.all_cons,List.all_append,Bool.and_eq_true,List.length_map] at hw
  refine ⟨Jz (Nat.le_trans ?_ (of_decide_eq_true hw.1)),hw.2.1⟩
  rw[adJ]
  exact Nat.le_trans (Nat.le_add_right _ _) (Nat.le_mul_of_pos_right _ hby)
 have all:∀m,m≤len→∃(φ':Ph) (h':au) (xs:List α),Gx φ φ' h h' w∧xs.length=m∧(∀x∈xs,ok_ h' x)∧∀(i:Nat) (x:α),xs[i]? =some x→∀j v,(c_ x)[j]? =some v→∃y,w.cell? ((a.add (i*n_)).add j)=some y∧VR φ' v y:=by
  intro m
  induction m with
  | zero=>exact fun _=>⟨φ,h,[],Gx.refl ok ro y,rfl,fun _ hx=>(by cases hx),fun i xi hx=>(by simp at hx)⟩
  | succ m ih=>
    intro WN
    obtain ⟨φ1,h1,xs,g1,hl,hq,hx⟩:=ih o!
    have h2:=gS m o!
    rw[List.getElem?_eq_getElem o!,hs] at h2
    simp only[Option.bind_eq_some_iff] at h2
    obtain ⟨ci,hc1,hc2⟩:=h2
    obtain ⟨_,Sm,GQ⟩:=World.cells?_some hc1
    obtain ⟨φ2,h2,x,g2,Bk,qI⟩:=he φ1 h1 g1.ok g1.ro g1.tidy ci _ n Sm (Small.all B_.2 _ (List.mem_map.2 ⟨_,List.getElem_mem _,rfl⟩)) hc2
    refine ⟨φ2,h2,xs++[x],g1.trans g2,by simp [hl],fun z hz=>?_,fun i z hz=>?_⟩
    · rcases List.mem_append.1 hz with h | h
      · exact aa2 g2.has (hq z h)
      · simp at h;subst h;exact qI
    · by_cases hi:i<xs.length
      · rw[List.getElem?_append_left hi] at hz
        intro j v hj
        obtain ⟨q,e1,e2⟩:=hx i z hz j v hj
        exact ⟨q,e1,e2.mono g2.le⟩
      · rw[List.getElem?_append_right o!] at hz
        have:i - xs.length=0:=by
         have:=(List.getElem?_eq_some_iff.1 hz).1
         simp at this;omega
        rw[this] at hz
        simp at hz;subst hz
        have:i=m:=by omega
        subst this
        intro j v hj
        have rj:j<(c_ x).length:=(List.getElem?_eq_some_iff.1 hj).1
        have ZE:j<ci.length:=by rw[←Bk.1];exact rj
        exact ⟨ci[j],by rw[GQ j (by rw[Sm] at ZE;exact ZE),List.getElem?_eq_getElem ZE],Bk.2 j v _ hj (List.getElem?_eq_getElem ZE)⟩
 obtain ⟨φ1,h1,xs,g1,hl,hq,hx⟩:=all len (Nat.le_refl _)
 have K3:=eB hlen xs
 have z_:a.spot=none:=by
  have hx0:xs[0]? =some (xs[0]'o!):=List.getElem?_eq_getElem o!
  obtain ⟨y,hy,_⟩:=hx 0 _ hx0 0 ((c_ (xs[0]'o!))[0]'(by rw[hlen];exact MI)) (List.getElem?_eq_getElem _)
  simp only[Nat.zero_mul,Addr.add,if_true] at hy
  unfold World.cell? at hy
  split at hy
  · cases hsp:a.spot with
    | none=>rfl
    | some _=>rw[hsp] at hy;simp at hy
  · cases hy
 have Wu:∀i j,(a.add (i*n_)).add j=⟨a.block,a.off+(i*n_+j),none⟩:=by
  intro i j
  obtain ⟨b,o,sp⟩:=a
  simp only at z_
  subst z_
  unfold Addr.add
  by_cases h1:i*n_=0<;>by_cases h2:j=0<;>simp [h1,h2,Nat.add_assoc]
 have eY:xs.flatMap c_≠ []:=by
  intro e
  have:=congrArg List.length e
  rw[K3,hl] at this
  have:=Nat.mul_pos h0 MI
  simp at *
  omega
 obtain ⟨h',hn,tc,hle,adK,aiq,hg,hold,hS⟩:=g1.ok.show g1.ro (b:=a.block) (off:=a.off) (e:=e_) eY (fun m WN=>by
  have:AV.map m∈xs.flatMap c_:=by rw[WN];simp
  obtain ⟨z,hz,hmz⟩:=List.mem_flatMap.1 this
  exact hm h1 z m (hq z hz) hmz) (fun k v hk=>by
  have Fs:k<(xs.flatMap c_).length:=(List.getElem?_eq_some_iff.1 hk).1
  have hdm:k/n_*n_+k%n_=k:=by rw[Nat.mul_comm];exact Nat.div_add_mod k _
  have hi:k/n_<xs.length:=by
   rw[K3] at Fs
   exact (Nat.div_lt_iff_lt_mul MI).2 Fs
  have hk2:=hk
  obtain ⟨xk,hgi,hgj⟩:=hg_ xs _ hi
  rw[←hdm,hgj _ (Nat.mod_lt _ MI)] at hk2
  obtain ⟨y,hy,hvr⟩:=hx _ _ hgi _ v hk2
  rw[Wu,hdm] at hy
  exact ⟨y,hy,hvr⟩)
 have hVR:=VR.slice (φ:=φ1.add h1.nx ⟨a.block,a.off,0⟩) 0 len cap false hS
 have has:Has h1 h':=yX g1.tidy hn
 refine ⟨_,h',(.slice h1.nx 0 len cap false,xs),g1.trans ⟨tc,hle,adK,has,by omega,oc g1.tidy hn⟩,LR.cons ?_ (LR.nil _),?_⟩
 · obtain ⟨b,o,sp⟩:=a
   simp only at z_
   subst z_
   exact hVR
 · subst hl
   exact ⟨⟨JN,K3,B_.1,rfl,.inr ⟨h1.nx,0,_,cap,false,_,_,true,rfl,hlc,hg,fun j _=>by rw[Nat.zero_add]⟩⟩,.inr (.inr ⟨_,_,_,_,_,rfl⟩),fun x hx=>aa2 has (hq x hx)⟩
theorem JA (k:IntKind):∀l:List Int,(l.flatMap fun x=> [AV.int k x])=zs k l
 | []=>rfl
 | x::l=>by rw[List.flatMap_cons,JA k l];rfl
theorem ZF (k:IntKind) (l:List Int) (i:Nat) (hi:i<l.length):∃x,l[i]? =some x∧∀j,j<1→(l.flatMap fun x=> [AV.int k x])[i*1+j]? =[AV.int k x][j]? :=by
 refine ⟨l[i],List.getElem?_eq_getElem hi,fun j hj=>?_⟩
 have:j=0:=by omega
 subst this
 rw[JA,zs,List.getElem?_map,Nat.mul_one,Nat.add_zero,List.getElem?_eq_getElem hi];rfl
theorem OG {k:IntKind} {t e:TypeId} (ht:env.P.underlying t=some (.slice e)) (hi:env.P.underlying e=some (.int k)) (JN:bU env e=some 1) (ha:fw env e=some false) (hs:env.P.cellsOf e=1) (hby:0<env.P.bytesOf e):oD enc w base spare held t 1 (fun x:AV×List Int=> [x.1]) (fun h x=>b_ h k e x.1 x.2):=fun φ h ok ro y cs z n hl hw hv=>by
 obtain ⟨φ',h',x,g,l,a,b,_⟩:=OF (ok_:=fun _ _=>True) (c_:=fun x:Int=> [.int k x]) JN (fun _=>rfl) (by decide) (fun _ _=>trivial) (ZF k) ht hs hby (fun _ x m _ hmm=>by simp at hmm) (nM hi) φ h ok ro y cs z n hl hw hv
 refine ⟨φ',h',x,g,l,?_⟩
 rw[JA] at a
 exact b_.mk a ha b
end
open Go.ChangeShapes Go.WideShapes Go.RowKit
section
variable {H:Type} {enc:TypeId×Value→H} {w:World} {base:Nat} {spare:Nat→Bool} {held:Bool}
theorem Qi:Tryz.prog.cellsOf 9=1:=by kernel_rfl
theorem s7:Tryz.prog.cellsOf 3=1:=by kernel_rfl
theorem Wv:Tryz.prog.cellsOf 26=1:=by kernel_rfl
theorem Qj:oD enc w base spare held 26 1 (fun x:AV×List Int=> [x.1]) (fun h x=>b_ h .i64 3 x.1 x.2):=OG Tryz.underlying26 Tryz.underlying3 (by kernel_rfl) (by kernel_rfl) s7 (of_decide_eq_true (by kernel_rfl))
theorem Ww:Tryz.prog.cellsOf 88=2:=by kernel_rfl
theorem ZG:oD enc w base spare held 88 2 (aL.c (α:=jh)) aL.ok:=fun φ h0 ok ro ty cs z fuel hl hw hv=>by
 obtain ⟨xs,n,_,rfl,_,Fv,hf⟩:=DataW.trod_struct Tryz.underlying88 hv
 obtain ⟨c0,c1,rfl⟩:∃c0 c1,cs=[c0,c1]:=by
  match cs,hl with
  | [c0,c1],_=>exact ⟨_,_,rfl⟩
 obtain ⟨y0,y1,rfl⟩:∃y0 y1,xs=[y0,y1]:=by
  match xs,Fv with
  | [y0,y1],_=>exact ⟨_,_,rfl⟩
 have hs:=Small.struct Tryz.underlying88 hw
 obtain ⟨s0,hs⟩:=Small.dB hs
 have q0:DataW.trod enc Tryz.prog w base spare held n 3 [c0]=some y0:=by simpa [s7] using hf 0 _ rfl
 obtain ⟨φ1,h1,x0,g0,l0,o0⟩:=nM (t:=3) Tryz.underlying3 _ _ (Gx.refl ok ro ty).ok (Gx.refl ok ro ty).ro (Gx.refl ok ro ty).tidy _ _ _ rfl s0 q0
 have G0:=Gx.trans (Gx.refl ok ro ty) g0
 obtain ⟨s1,hs⟩:=Small.dB hs
 have q1:DataW.trod enc Tryz.prog w base spare held n 3 [c1]=some y1:=by simpa [s7] using hf 1 _ rfl
 obtain ⟨φ2,h2,x1,g1,l1,o1⟩:=nM (t:=3) Tryz.underlying3 _ _ G0.ok G0.ro G0.tidy _ _ _ rfl s1 q1
 have G1:=Gx.trans G0 g1
 have L0:=LR.mono (Ph.le_trans (Ph.le_refl _) g1.le) l0
 have L1:=LR.mono (Ph.le_refl _) l1
 exact ⟨_,_,⟨x0,x1⟩,G1,(LR.append L0 (LR.append L1 (LR.nil _))),trivial⟩
theorem Wx:Tryz.prog.cellsOf 42=1:=by kernel_rfl
theorem ZH:oD enc w base spare held 42 1 (fun x:AV×List jh=> [x.1]) (fun h x=>aS h x.1 x.2):=qE (t:=42) Tryz.underlying42 Ww (of_decide_eq_true (by kernel_rfl)) (fun _ x m _ h=>by cases x;simp [aL.c,jh.c] at h) ZG
theorem Wy:Tryz.prog.cellsOf 44=4:=by kernel_rfl
theorem ZI:oD enc w base spare held 44 4 (aL.c (α:=Task)) aL.ok:=fun φ h0 ok ro ty cs z fuel hl hw hv=>by
 obtain ⟨xs,n,_,rfl,_,Fv,hf⟩:=DataW.trod_struct Tryz.underlying44 hv
 obtain ⟨c0,c1,c2,c3,rfl⟩:∃c0 c1 c2 c3,cs=[c0,c1,c2,c3]:=by
  match cs,hl with
  | [c0,c1,c2,c3],_=>exact ⟨_,_,_,_,rfl⟩
 obtain ⟨y0,y1,y2,y3,rfl⟩:∃y0 y1 y2 y3,xs=[y0,y1,y2,y3]:=by
  match xs,Fv with
  | [y0,y1,y2,y3],_=>exact ⟨_,_,_,_,rfl⟩
 have hs:=Small.struct Tryz.underlying44 hw
 obtain ⟨s0,hs⟩:=Small.dB hs
 have q0:DataW.trod enc Tryz.prog w base spare held n 9 [c0]=some y0:=by simpa [Qi] using hf 0 _ rfl
 obtain ⟨φ1,h1,x0,g0,l0,o0⟩:=Hw (t:=9) Tryz.underlying9 _ _ (Gx.refl ok ro ty).ok (Gx.refl ok ro ty).ro (Gx.refl ok ro ty).tidy _ _ _ rfl s0 q0
 have G0:=Gx.trans (Gx.refl ok ro ty) g0
 obtain ⟨s1,hs⟩:=Small.dB hs
 have q1:DataW.trod enc Tryz.prog w base spare held n 3 [c1]=some y1:=by simpa [s7] using hf 1 _ rfl
 obtain ⟨φ2,h2,x1,g1,l1,o1⟩:=nM (t:=3) Tryz.underlying3 _ _ G0.ok G0.ro G0.tidy _ _ _ rfl s1 q1
 have G1:=Gx.trans G0 g1
 obtain ⟨s2,hs⟩:=Small.dB hs
 have q2:DataW.trod enc Tryz.prog w base spare held n 26 [c2]=some y2:=by simpa [Wv] using hf 2 _ rfl
 obtain ⟨φ3,h3,x2,g2,l2,o2⟩:=Qj _ _ G1.ok G1.ro G1.tidy _ _ _ rfl s2 q2
 have G2:=Gx.trans G1 g2
 obtain ⟨s3,hs⟩:=Small.dB hs
 have q3:DataW.trod enc Tryz.prog w base spare held n 42 [c3]=some y3:=by simpa [Wx] using hf 3 _ rfl
 obtain ⟨φ4,h4,x3,g3,l3,o3⟩:=ZH _ _ G2.ok G2.ro G2.tidy _ _ _ rfl s3 q3
 have G3:=Gx.trans G2 g3
 have L0:=LR.mono (Ph.le_trans (Ph.le_trans (Ph.le_trans (Ph.le_refl _) g1.le) g2.le) g3.le) l0
 have L1:=LR.mono (Ph.le_trans (Ph.le_trans (Ph.le_refl _) g2.le) g3.le) l1
 have L2:=LR.mono (Ph.le_trans (Ph.le_refl _) g3.le) l2
 have L3:=LR.mono (Ph.le_refl _) l3
 exact ⟨_,_,⟨x0,x1,x2.1,x2.2,x3.1,x3.2⟩,G3,(LR.append L0 (LR.append L1 (LR.append L2 (LR.append L3 (LR.nil _))))),⟨o0,(o2.has g3.has),o3⟩⟩
theorem Wz:Tryz.prog.cellsOf 22=1:=by kernel_rfl
theorem ZJ:oD enc w base spare held 22 1 (fun x:AV×List Task=> [x.1]) (fun h x=>aS h x.1 x.2):=qE (t:=22) Tryz.underlying22 Wy (of_decide_eq_true (by kernel_rfl)) (fun _ x m o h=>by
 simp only[aL.c,Task.c,List.mem_cons,List.not_mem_nil,or_false,reduceCtorEq,false_or] at h
 rcases h with h | h
 · exact b_.Ps (o.2.1) h
 · exact aS.Ps (o.2.2) h) ZI
theorem WA:Tryz.prog.cellsOf 74=2:=by kernel_rfl
theorem ZK:oD enc w base spare held 74 2 (aL.c (α:=Span)) aL.ok:=fun φ h0 ok ro ty cs z fuel hl hw hv=>by
 obtain ⟨xs,n,_,rfl,_,Fv,hf⟩:=DataW.trod_struct Tryz.underlying74 hv
 obtain ⟨c0,c1,rfl⟩:∃c0 c1,cs=[c0,c1]:=by
  match cs,hl with
  | [c0,c1],_=>exact ⟨_,_,rfl⟩
 obtain ⟨y0,y1,rfl⟩:∃y0 y1,xs=[y0,y1]:=by
  match xs,Fv with
  | [y0,y1],_=>exact ⟨_,_,rfl⟩
 have hs:=Small.struct Tryz.underlying74 hw
 obtain ⟨s0,hs⟩:=Small.dB hs
 have q0:DataW.trod enc Tryz.prog w base spare held n 3 [c0]=some y0:=by simpa [s7] using hf 0 _ rfl
 obtain ⟨φ1,h1,x0,g0,l0,o0⟩:=nM (t:=3) Tryz.underlying3 _ _ (Gx.refl ok ro ty).ok (Gx.refl ok ro ty).ro (Gx.refl ok ro ty).tidy _ _ _ rfl s0 q0
 have G0:=Gx.trans (Gx.refl ok ro ty) g0
 obtain ⟨s1,hs⟩:=Small.dB hs
 have q1:DataW.trod enc Tryz.prog w base spare held n 3 [c1]=some y1:=by simpa [s7] using hf 1 _ rfl
 obtain ⟨φ2,h2,x1,g1,l1,o1⟩:=nM (t:=3) Tryz.underlying3 _ _ G0.ok G0.ro G0.tidy _ _ _ rfl s1 q1
 have G1:=Gx.trans G0 g1
 have L0:=LR.mono (Ph.le_trans (Ph.le_refl _) g1.le) l0
 have L1:=LR.mono (Ph.le_refl _) l1
 exact ⟨_,_,⟨x0,x1⟩,G1,(LR.append L0 (LR.append L1 (LR.nil _))),trivial⟩
theorem WB:Tryz.prog.cellsOf 39=1:=by kernel_rfl
theorem ZL:oD enc w base spare held 39 1 (fun x:AV×List Span=> [x.1]) (fun h x=>aS h x.1 x.2):=qE (t:=39) Tryz.underlying39 WA (of_decide_eq_true (by kernel_rfl)) (fun _ x m _ h=>by cases x;simp [aL.c,Span.c] at h) ZK
theorem WC:Tryz.prog.cellsOf 41=3:=by kernel_rfl
theorem ZM:oD enc w base spare held 41 3 (aL.c (α:=bJ)) aL.ok:=fun φ h0 ok ro ty cs z fuel hl hw hv=>by
 obtain ⟨xs,n,_,rfl,_,Fv,hf⟩:=DataW.trod_struct Tryz.underlying41 hv
 obtain ⟨c0,c1,c2,rfl⟩:∃c0 c1 c2,cs=[c0,c1,c2]:=by
  match cs,hl with
  | [c0,c1,c2],_=>exact ⟨_,_,_,rfl⟩
 obtain ⟨y0,y1,y2,rfl⟩:∃y0 y1 y2,xs=[y0,y1,y2]:=by
  match xs,Fv with
  | [y0,y1,y2],_=>exact ⟨_,_,_,rfl⟩
 have hs:=Small.struct Tryz.underlying41 hw
 obtain ⟨s0,hs⟩:=Small.dB hs
 have q0:DataW.trod enc Tryz.prog w base spare held n 9 [c0]=some y0:=by simpa [Qi] using hf 0 _ rfl
 obtain ⟨φ1,h1,x0,g0,l0,o0⟩:=Hw (t:=9) Tryz.underlying9 _ _ (Gx.refl ok ro ty).ok (Gx.refl ok ro ty).ro (Gx.refl ok ro ty).tidy _ _ _ rfl s0 q0
 have G0:=Gx.trans (Gx.refl ok ro ty) g0
 obtain ⟨s1,hs⟩:=Small.dB hs
 have q1:DataW.trod enc Tryz.prog w base spare held n 3 [c1]=some y1:=by simpa [s7] using hf 1 _ rfl
 obtain ⟨φ2,h2,x1,g1,l1,o1⟩:=nM (t:=3) Tryz.underlying3 _ _ G0.ok G0.ro G0.tidy _ _ _ rfl s1 q1
 have G1:=Gx.trans G0 g1
 obtain ⟨s2,hs⟩:=Small.dB hs
 have q2:DataW.trod enc Tryz.prog w base spare held n 39 [c2]=some y2:=by simpa [WB] using hf 2 _ rfl
 obtain ⟨φ3,h3,x2,g2,l2,o2⟩:=ZL _ _ G1.ok G1.ro G1.tidy _ _ _ rfl s2 q2
 have G2:=Gx.trans G1 g2
 have L0:=LR.mono (Ph.le_trans (Ph.le_trans (Ph.le_refl _) g1.le) g2.le) l0
 have L1:=LR.mono (Ph.le_trans (Ph.le_refl _) g2.le) l1
 have L2:=LR.mono (Ph.le_refl _) l2
 exact ⟨_,_,⟨x0,x1,x2.1,x2.2⟩,G2,(LR.append L0 (LR.append L1 (LR.append L2 (LR.nil _)))),⟨o0,o2⟩⟩
theorem WD:Tryz.prog.cellsOf 23=1:=by kernel_rfl
theorem ZN:oD enc w base spare held 23 1 (fun x:AV×List bJ=> [x.1]) (fun h x=>aS h x.1 x.2):=qE (t:=23) Tryz.underlying23 WC (of_decide_eq_true (by kernel_rfl)) (fun _ x m o h=>by
 simp only[aL.c,bJ.c,List.mem_cons,List.not_mem_nil,or_false,reduceCtorEq,false_or] at h
 exact aS.Ps (o.2) h) ZM
theorem WE:Tryz.prog.cellsOf 25=2:=by kernel_rfl
theorem ZO:oD enc w base spare held 25 2 (aL.c (α:=cz)) aL.ok:=fun φ h0 ok ro ty cs z fuel hl hw hv=>by
 obtain ⟨xs,n,_,rfl,_,Fv,hf⟩:=DataW.trod_struct Tryz.underlying25 hv
 obtain ⟨c0,c1,rfl⟩:∃c0 c1,cs=[c0,c1]:=by
  match cs,hl with
  | [c0,c1],_=>exact ⟨_,_,rfl⟩
 obtain ⟨y0,y1,rfl⟩:∃y0 y1,xs=[y0,y1]:=by
  match xs,Fv with
  | [y0,y1],_=>exact ⟨_,_,rfl⟩
 have hs:=Small.struct Tryz.underlying25 hw
 obtain ⟨s0,hs⟩:=Small.dB hs
 have q0:DataW.trod enc Tryz.prog w base spare held n 22 [c0]=some y0:=by simpa [Wz] using hf 0 _ rfl
 obtain ⟨φ1,h1,x0,g0,l0,o0⟩:=ZJ _ _ (Gx.refl ok ro ty).ok (Gx.refl ok ro ty).ro (Gx.refl ok ro ty).tidy _ _ _ rfl s0 q0
 have G0:=Gx.trans (Gx.refl ok ro ty) g0
 obtain ⟨s1,hs⟩:=Small.dB hs
 have q1:DataW.trod enc Tryz.prog w base spare held n 23 [c1]=some y1:=by simpa [WD] using hf 1 _ rfl
 obtain ⟨φ2,h2,x1,g1,l1,o1⟩:=ZN _ _ G0.ok G0.ro G0.tidy _ _ _ rfl s1 q1
 have G1:=Gx.trans G0 g1
 have L0:=LR.mono (Ph.le_trans (Ph.le_refl _) g1.le) l0
 have L1:=LR.mono (Ph.le_refl _) l1
 exact ⟨_,_,⟨x0.1,x0.2,x1.1,x1.2⟩,G1,(LR.append L0 (LR.append L1 (LR.nil _))),⟨(o0.has g1.has),o1⟩⟩
end
end Go.Proofs.aP
