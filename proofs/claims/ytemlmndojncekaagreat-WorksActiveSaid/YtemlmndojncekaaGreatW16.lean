import Derived.Test.YtemlmndojncekaaGreatW0
import Derived.Test.YtemlmndojncekaaGreatW15
import Derived.Test.YtemlmndojncekaaGreatW13
import Derived.Test.YtemlmndojncekaaGreatA7
namespace Go.Proofs.aQ
open Go.Proofs Ab
noncomputable section
set_option maxRecDepth 100000
set_option maxHeartbeats 4000000
set_option linter.unusedVariables false
set_option linter.unusedSimpArgs false
def eL:Code:=(Tryz.f3.body).getD .skip
theorem hQ:Tryz.f3.body=some eL:=by kernel_rfl
def nU:Code:=(j_ eL).getD 1 .skip
def nV:Code:=(j_ eL).getD 5 .skip
def nW:Code:=(j_ eL).getD 7 .skip
def mR:Code:=(j_ eL).getD 16 .skip
def cR (j:cx) (oqd:List Int) (cT:Int) (oS:Int):Bool:=(bif (bif (fC j 8) then true else (decide (100<((oqd.length:Nat):Int)))) then true else (bif (!decide ((ar j oqd).2=0)) then (bif (decide ((((ar j oqd).1.length:Nat):Int)=0)) then true else false) else (bif (bif (!decide ((bl j (ar j oqd).1).2=0)) then true else (!((bl j (ar j oqd).1).1))) then false else (bif (decide ((((ar j oqd).1.length:Nat):Int)=0)) then true else (bif (decide (0<((ar j oqd).1.g (Int.tmod (IntKind.i64.wrap ((Int.tmod cT (((ar j oqd).1.length:Nat):Int))+(((ar j oqd).1.length:Nat):Int))) (((ar j oqd).1.length:Nat):Int)).toNat))) then (bif (bif (!decide ((bR j ((ar j oqd).1.set (Int.tmod (IntKind.i64.wrap ((Int.tmod cT (((ar j oqd).1.length:Nat):Int))+(((ar j oqd).1.length:Nat):Int))) (((ar j oqd).1.length:Nat):Int)).toNat (Int.tmod (IntKind.i64.wrap ((Int.tmod oS ((ar j oqd).1.g (Int.tmod (IntKind.i64.wrap ((Int.tmod cT (((ar j oqd).1.length:Nat):Int))+(((ar j oqd).1.length:Nat):Int))) (((ar j oqd).1.length:Nat):Int)).toNat))+((ar j oqd).1.g (Int.tmod (IntKind.i64.wrap ((Int.tmod cT (((ar j oqd).1.length:Nat):Int))+(((ar j oqd).1.length:Nat):Int))) (((ar j oqd).1.length:Nat):Int)).toNat))) ((ar j oqd).1.g (Int.tmod (IntKind.i64.wrap ((Int.tmod cT (((ar j oqd).1.length:Nat):Int))+(((ar j oqd).1.length:Nat):Int))) (((ar j oqd).1.length:Nat):Int)).toNat)))).2=0)) then true else (bR j ((ar j oqd).1.set (Int.tmod (IntKind.i64.wrap ((Int.tmod cT (((ar j oqd).1.length:Nat):Int))+(((ar j oqd).1.length:Nat):Int))) (((ar j oqd).1.length:Nat):Int)).toNat (Int.tmod (IntKind.i64.wrap ((Int.tmod oS ((ar j oqd).1.g (Int.tmod (IntKind.i64.wrap ((Int.tmod cT (((ar j oqd).1.length:Nat):Int))+(((ar j oqd).1.length:Nat):Int))) (((ar j oqd).1.length:Nat):Int)).toNat))+((ar j oqd).1.g (Int.tmod (IntKind.i64.wrap ((Int.tmod cT (((ar j oqd).1.length:Nat):Int))+(((ar j oqd).1.length:Nat):Int))) (((ar j oqd).1.length:Nat):Int)).toNat))) ((ar j oqd).1.g (Int.tmod (IntKind.i64.wrap ((Int.tmod cT (((ar j oqd).1.length:Nat):Int))+(((ar j oqd).1.length:Nat):Int))) (((ar j oqd).1.length:Nat):Int)).toNat)))).1) then false else true) else true)))))
theorem EX {d:Nat} {h:aC} {bt:AV} (j:cx) (oqd:List Int) (cT:Int) (oS:Int) (bV:aR.ok h j) (eC:b8 h .i64 3 bt oqd) (ch:Tidy h):cN (d+14) (.fn 3) [(AV.agg [j.aw,j.ao]),bt,(Zi cT),(Zi oS)] h= .ret (AV.bool (cR j oqd cT oS)) h:=by
 have s9:=eC.small
 have kb:=bV.1.small
 have kf:=bV.2.small
 obtain ⟨h1,di,cS,jU,bm,bP⟩:=jE ch (aM.cells [j.aw,j.ao] 25 false)
 have bA:Has h h1:=bP
 obtain ⟨Ae,uE⟩:∃Ae:Nat→AV,Ev env (cN (d+13)) nU ⟨((AV.agg [j.aw,j.ao])::bt::(Zi cT)::(Zi oS)::(Pt h.nx)::AV.undef::AV.undef::AV.undef::(AV.bool false)::jX 93),h1,[],.no⟩ .normal ⟨((AV.agg [j.aw,j.ao])::bt::(Zi cT)::(Zi oS)::(Pt h.nx)::AV.undef::AV.undef::AV.undef::(AV.bool false)::AV.undef::AV.undef::AV.undef::AV.undef::AV.undef::AV.undef::rx Ae 15 6 ((AV.bool (bif (fC j 8) then true else (decide (100<((oqd.length:Nat):Int)))))::jX 80)),h1,[],.no⟩:=by
  have k2:=WG (d:=d+12) j 8 (aR.mono bA bV) cS
  rcases Bool.eq_false_or_eq_true (fC j 8) with f0 | f0
  · have ev:=pk (d+13) nU ((AV.agg [j.aw,j.ao])::bt::(Zi cT)::(Zi oS)::(Pt h.nx)::AV.undef::AV.undef::AV.undef::(AV.bool false)::jX 93) h1 .normal h1 (MM (aO 25 0 (AV.agg [j.aw,j.ao]) bm k!)<|EE k2<|CC<|BB f0<|BB f0<|BV f0 (yA true f0)<|ZZ) k!
    rw[show (bif (fC j 8) then true else (decide (100<((oqd.length:Nat):Int))))=true by simp only[f0,aj,ai]]
    exact kz ev k!
  · have D_:cb (some (.slice 3)) (some bt)=some (Zn oqd.length):=eC.len
    have ev:=pk (d+13) nU ((AV.agg [j.aw,j.ao])::bt::(Zi cT)::(Zi oS)::(Pt h.nx)::AV.undef::AV.undef::AV.undef::(AV.bool false)::jX 93) h1 .normal h1 (MM (aO 25 0 (AV.agg [j.aw,j.ao]) bm k!)<|EE k2<|CC<|BC f0<|BV f0 D_<|BV f0 (dw 3 false true .i64 ((oqd.length:Nat):Int) 100)<|VV (cf (a:=some (AV.bool true)) (b:=some (AV.bool (decide (100<((oqd.length:Nat):Int))))) f0)<|ZZ) k!
    rw[show (bif (fC j 8) then true else (decide (100<((oqd.length:Nat):Int))))=(decide (100<((oqd.length:Nat):Int))) by simp only[f0,aj,ai]]
    exact kz ev k!
 have dJ:=fun {al ps} (k:Pk al _ ps)=>(NN di (fun i=>(Pt i))<|CC<|LL uE<|k:Pk _ [] ps)
 rcases Bool.eq_false_or_eq_true (bif (fC j 8) then true else (decide (100<((oqd.length:Nat):Int)))) with f0 | f0
 · have k4:(cN (d+13)) (.fn 5) [] h1= .ret (.bool true) h1:=rfl
   have e:cR j oqd cT oS=true:=by simp only[cR,f0,aj,ai]
   rw[e]
   exact aH rfl (bb Tryz.func3 hQ rfl (.inr rfl) (pk (d+13) _ _ h _ h1 (dJ<|BB f0<|EE k4<|CC<|ZZ) k!) k!) bA rfl
 · obtain ⟨z4,h6,WJ,vN,Qa⟩:=PK (d:=d+1) j oqd (aR.mono bA bV) (eC.has bA) cS
   have ji:=vN.y
   have agU:h1.nx≤h6.nx:=vN.n
   have hZ:Has h h6:=bA.trans vN.a
   have aoi:=Qa.small
   have aoj:=SJ j oqd
   rcases Bool.eq_false_or_eq_true (!decide ((ar j oqd).2=0)) with f1 | f1
   · have fP:=P7 f1
     obtain ⟨yj8,aiq⟩:∃yj8:Nat→AV,Ev env (cN (d+13)) nV ⟨((AV.agg [j.aw,j.ao])::bt::(Zi cT)::(Zi oS)::(Pt h.nx)::AV.undef::AV.undef::AV.undef::(AV.bool false)::z4::(Zi (ar j oqd).2)::AV.undef::AV.undef::AV.undef::AV.undef::rx Ae 15 6 ((AV.bool (bif (fC j 8) then true else (decide (100<((oqd.length:Nat):Int)))))::AV.undef::(AV.tuple [z4,(Zi (ar j oqd).2)])::(AV.agg [j.aw,j.ao])::bt::(AV.tuple [z4,(Zi (ar j oqd).2)])::z4::(Zi (ar j oqd).2)::(Zi (ar j oqd).2)::(AV.bool (!decide ((ar j oqd).2=0)))::jX 71)),h6,[],.no⟩ .normal ⟨((AV.agg [j.aw,j.ao])::bt::(Zi cT)::(Zi oS)::(Pt h.nx)::AV.undef::AV.undef::AV.undef::(AV.bool (bif (decide ((((ar j oqd).1.length:Nat):Int)=0)) then true else false))::z4::(Zi (ar j oqd).2)::AV.undef::AV.undef::AV.undef::AV.undef::rx Ae 15 6 ((AV.bool (bif (fC j 8) then true else (decide (100<((oqd.length:Nat):Int)))))::AV.undef::(AV.tuple [z4,(Zi (ar j oqd).2)])::(AV.agg [j.aw,j.ao])::bt::(AV.tuple [z4,(Zi (ar j oqd).2)])::z4::(Zi (ar j oqd).2)::(Zi (ar j oqd).2)::(AV.bool (!decide ((ar j oqd).2=0)))::rx yj8 31 6 (jX 65))),h6,[],.no⟩:=by
      have WE:cb (some (.slice 3)) (some z4)=some (Zn (ar j oqd).1.length):=Qa.len
      rcases Bool.eq_false_or_eq_true (decide ((((ar j oqd).1.length:Nat):Int)=0)) with f0 | f0
      · have jf:=of_decide_eq_true f0
        have YU:(cN (d+13)) (.fn 5) [] h6= .ret (.bool true) h6:=rfl
        have ev:=pk (d+13) nV ((AV.agg [j.aw,j.ao])::bt::(Zi cT)::(Zi oS)::(Pt h.nx)::AV.undef::AV.undef::AV.undef::(AV.bool false)::z4::(Zi (ar j oqd).2)::AV.undef::AV.undef::AV.undef::AV.undef::rx Ae 15 6 ((AV.bool (bif (fC j 8) then true else (decide (100<((oqd.length:Nat):Int)))))::AV.undef::(AV.tuple [z4,(Zi (ar j oqd).2)])::(AV.agg [j.aw,j.ao])::bt::(AV.tuple [z4,(Zi (ar j oqd).2)])::z4::(Zi (ar j oqd).2)::(Zi (ar j oqd).2)::(AV.bool (!decide ((ar j oqd).2=0)))::jX 71)) h6 .normal h6 (CC<|VV WE<|VV (vE 3 false true .i64 (((ar j oqd).1.length:Nat):Int) 0)<|CC<|BB f0<|EE YU<|VV (sP true false f0)<|CC<|ZZ) k!
        rw[show (bif (decide ((((ar j oqd).1.length:Nat):Int)=0)) then true else false)=true by simp only[f0,aj,ai]]
        exact kz ev k!
      · have jf:=of_decide_eq_false f0
        have ev:=pk (d+13) nV ((AV.agg [j.aw,j.ao])::bt::(Zi cT)::(Zi oS)::(Pt h.nx)::AV.undef::AV.undef::AV.undef::(AV.bool false)::z4::(Zi (ar j oqd).2)::AV.undef::AV.undef::AV.undef::AV.undef::rx Ae 15 6 ((AV.bool (bif (fC j 8) then true else (decide (100<((oqd.length:Nat):Int)))))::AV.undef::(AV.tuple [z4,(Zi (ar j oqd).2)])::(AV.agg [j.aw,j.ao])::bt::(AV.tuple [z4,(Zi (ar j oqd).2)])::z4::(Zi (ar j oqd).2)::(Zi (ar j oqd).2)::(AV.bool (!decide ((ar j oqd).2=0)))::jX 71)) h6 .normal h6 (CC<|VV WE<|VV (vE 3 false true .i64 (((ar j oqd).1.length:Nat):Int) 0)<|CC<|BV f0 (yB false f0)<|CC<|ZZ) k!
        rw[show (bif (decide ((((ar j oqd).1.length:Nat):Int)=0)) then true else false)=false by simp only[f0,aj,ai]]
        exact kz ev k!
     have e:cR j oqd cT oS=(bif (decide ((((ar j oqd).1.length:Nat):Int)=0)) then true else false):=by simp only[cR,f0,f1,aj,ai]
     rw[e]
     exact aH rfl (bb Tryz.func3 hQ rfl (.inr rfl) (pk (d+13) _ _ h _ h6 (dJ<|BM f0 (aO 25 0 (AV.agg [j.aw,j.ao]) bm k!)<|CC<|EE WJ<|CN 6<|VV (kS 29 false true .i64 (ar j oqd).2 0)<|BB f1<|LL aiq<|ZZ) k!) k!) hZ rfl
   · have fP:=P9 f1
     have k8:=WH (d:=d+8) j (ar j oqd).1 (aR.mono hZ bV) Qa ji
     obtain ⟨yj9,H8⟩:∃yj9:Nat→AV,Ev env (cN (d+13)) nW ⟨((AV.agg [j.aw,j.ao])::bt::(Zi cT)::(Zi oS)::(Pt h.nx)::AV.undef::AV.undef::AV.undef::(AV.bool false)::z4::(Zi (ar j oqd).2)::(AV.bool (bl j (ar j oqd).1).1)::(Zi (bl j (ar j oqd).1).2)::AV.undef::AV.undef::rx Ae 15 6 ((AV.bool (bif (fC j 8) then true else (decide (100<((oqd.length:Nat):Int)))))::AV.undef::(AV.tuple [z4,(Zi (ar j oqd).2)])::(AV.agg [j.aw,j.ao])::bt::(AV.tuple [z4,(Zi (ar j oqd).2)])::z4::(Zi (ar j oqd).2)::(Zi (ar j oqd).2)::(AV.bool (!decide ((ar j oqd).2=0)))::AV.undef::AV.undef::AV.undef::AV.undef::AV.undef::AV.undef::(AV.tuple [(AV.bool (bl j (ar j oqd).1).1),(Zi (bl j (ar j oqd).1).2)])::(AV.agg [j.aw,j.ao])::z4::(AV.tuple [(AV.bool (bl j (ar j oqd).1).1),(Zi (bl j (ar j oqd).1).2)])::(AV.bool (bl j (ar j oqd).1).1)::(Zi (bl j (ar j oqd).1).2)::jX 59)),h6,[],.no⟩ .normal ⟨((AV.agg [j.aw,j.ao])::bt::(Zi cT)::(Zi oS)::(Pt h.nx)::AV.undef::AV.undef::AV.undef::(AV.bool false)::z4::(Zi (ar j oqd).2)::(AV.bool (bl j (ar j oqd).1).1)::(Zi (bl j (ar j oqd).1).2)::AV.undef::AV.undef::rx Ae 15 6 ((AV.bool (bif (fC j 8) then true else (decide (100<((oqd.length:Nat):Int)))))::AV.undef::(AV.tuple [z4,(Zi (ar j oqd).2)])::(AV.agg [j.aw,j.ao])::bt::(AV.tuple [z4,(Zi (ar j oqd).2)])::z4::(Zi (ar j oqd).2)::(Zi (ar j oqd).2)::(AV.bool (!decide ((ar j oqd).2=0)))::AV.undef::AV.undef::AV.undef::AV.undef::AV.undef::AV.undef::(AV.tuple [(AV.bool (bl j (ar j oqd).1).1),(Zi (bl j (ar j oqd).1).2)])::(AV.agg [j.aw,j.ao])::z4::(AV.tuple [(AV.bool (bl j (ar j oqd).1).1),(Zi (bl j (ar j oqd).1).2)])::(AV.bool (bl j (ar j oqd).1).1)::(Zi (bl j (ar j oqd).1).2)::rx yj9 43 5 ((AV.bool (bif (!decide ((bl j (ar j oqd).1).2=0)) then true else (!((bl j (ar j oqd).1).1))))::jX 53))),h6,[],.no⟩:=by
      rcases Bool.eq_false_or_eq_true (!decide ((bl j (ar j oqd).1).2=0)) with f0 | f0
      · have jf:=P7 f0
        have ev:=pk (d+13) nW ((AV.agg [j.aw,j.ao])::bt::(Zi cT)::(Zi oS)::(Pt h.nx)::AV.undef::AV.undef::AV.undef::(AV.bool false)::z4::(Zi (ar j oqd).2)::(AV.bool (bl j (ar j oqd).1).1)::(Zi (bl j (ar j oqd).1).2)::AV.undef::AV.undef::rx Ae 15 6 ((AV.bool (bif (fC j 8) then true else (decide (100<((oqd.length:Nat):Int)))))::AV.undef::(AV.tuple [z4,(Zi (ar j oqd).2)])::(AV.agg [j.aw,j.ao])::bt::(AV.tuple [z4,(Zi (ar j oqd).2)])::z4::(Zi (ar j oqd).2)::(Zi (ar j oqd).2)::(AV.bool (!decide ((ar j oqd).2=0)))::AV.undef::AV.undef::AV.undef::AV.undef::AV.undef::AV.undef::(AV.tuple [(AV.bool (bl j (ar j oqd).1).1),(Zi (bl j (ar j oqd).1).2)])::(AV.agg [j.aw,j.ao])::z4::(AV.tuple [(AV.bool (bl j (ar j oqd).1).1),(Zi (bl j (ar j oqd).1).2)])::(AV.bool (bl j (ar j oqd).1).1)::(Zi (bl j (ar j oqd).1).2)::jX 59)) h6 .normal h6 (CC<|VV (kS 29 false true .i64 (bl j (ar j oqd).1).2 0)<|CC<|BB f0<|BV f0 (yA true f0)<|ZZ) k!
        rw[show (bif (!decide ((bl j (ar j oqd).1).2=0)) then true else (!((bl j (ar j oqd).1).1)))=true by simp only[f0,aj,ai]]
        exact kz ev k!
      · have jf:=P9 f0
        have ev:=pk (d+13) nW ((AV.agg [j.aw,j.ao])::bt::(Zi cT)::(Zi oS)::(Pt h.nx)::AV.undef::AV.undef::AV.undef::(AV.bool false)::z4::(Zi (ar j oqd).2)::(AV.bool (bl j (ar j oqd).1).1)::(Zi (bl j (ar j oqd).1).2)::AV.undef::AV.undef::rx Ae 15 6 ((AV.bool (bif (fC j 8) then true else (decide (100<((oqd.length:Nat):Int)))))::AV.undef::(AV.tuple [z4,(Zi (ar j oqd).2)])::(AV.agg [j.aw,j.ao])::bt::(AV.tuple [z4,(Zi (ar j oqd).2)])::z4::(Zi (ar j oqd).2)::(Zi (ar j oqd).2)::(AV.bool (!decide ((ar j oqd).2=0)))::AV.undef::AV.undef::AV.undef::AV.undef::AV.undef::AV.undef::(AV.tuple [(AV.bool (bl j (ar j oqd).1).1),(Zi (bl j (ar j oqd).1).2)])::(AV.agg [j.aw,j.ao])::z4::(AV.tuple [(AV.bool (bl j (ar j oqd).1).1),(Zi (bl j (ar j oqd).1).2)])::(AV.bool (bl j (ar j oqd).1).1)::(Zi (bl j (ar j oqd).1).2)::jX 59)) h6 .normal h6 (CC<|VV (kS 29 false true .i64 (bl j (ar j oqd).1).2 0)<|CC<|BC f0<|BC f0<|VV (cf (a:=some (AV.bool true)) (b:=some (AV.bool (!((bl j (ar j oqd).1).1)))) f0)<|ZZ) k!
        rw[show (bif (!decide ((bl j (ar j oqd).1).2=0)) then true else (!((bl j (ar j oqd).1).1)))=(!((bl j (ar j oqd).1).1)) by simp only[f0,aj,ai]]
        exact kz ev k!
     rcases Bool.eq_false_or_eq_true (bif (!decide ((bl j (ar j oqd).1).2=0)) then true else (!((bl j (ar j oqd).1).1))) with f2 | f2
     · have e:cR j oqd cT oS=false:=by simp only[cR,f0,f1,f2,aj,ai]
       rw[e]
       exact aH rfl (bb Tryz.func3 hQ rfl (.inr rfl) (pk (d+13) _ _ h _ h6 (dJ<|BM f0 (aO 25 0 (AV.agg [j.aw,j.ao]) bm k!)<|CC<|EE WJ<|CN 6<|VV (kS 29 false true .i64 (ar j oqd).2 0)<|BM f1 (aO 25 0 (AV.agg [j.aw,j.ao]) (vN.a _ _ bm) k!)<|CC<|EE k8<|CN 5<|LL H8<|BC f2<|ZZ) k!) k!) hZ rfl
     · have aed:cb (some (.slice 3)) (some z4)=some (Zn (ar j oqd).1.length):=Qa.len
       rcases Bool.eq_false_or_eq_true (decide ((((ar j oqd).1.length:Nat):Int)=0)) with f3 | f3
       · have yG:=of_decide_eq_true f3
         have k13:(cN (d+13)) (.fn 5) [] h6= .ret (.bool true) h6:=rfl
         have e:cR j oqd cT oS=true:=by simp only[cR,f0,f1,f2,f3,aj,ai]
         rw[e]
         exact aH rfl (bb Tryz.func3 hQ rfl (.inr rfl) (pk (d+13) _ _ h _ h6 (dJ<|BM f0 (aO 25 0 (AV.agg [j.aw,j.ao]) bm k!)<|CC<|EE WJ<|CN 6<|VV (kS 29 false true .i64 (ar j oqd).2 0)<|BM f1 (aO 25 0 (AV.agg [j.aw,j.ao]) (vN.a _ _ bm) k!)<|CC<|EE k8<|CN 5<|LL H8<|BC f2<|VV aed<|VV (vE 3 false true .i64 (((ar j oqd).1.length:Nat):Int) 0)<|BB f3<|EE k13<|CC<|ZZ) k!) k!) hZ rfl
       · have yG:=of_decide_eq_false f3
         have GP:cb (some (.slice 3)) (some z4)=some (Zn (ar j oqd).1.length):=Qa.len
         have LD:cb (some (.slice 3)) (some z4)=some (Zn (ar j oqd).1.length):=Qa.len
         have Zr:cb (some (.slice 3)) (some z4)=some (Zn (ar j oqd).1.length):=Qa.len
         obtain ⟨dx,H9⟩:∃q_:Int,q_=(Int.tmod (IntKind.i64.wrap ((Int.tmod cT (((ar j oqd).1.length:Nat):Int))+(((ar j oqd).1.length:Nat):Int))) (((ar j oqd).1.length:Nat):Int)):=⟨_,rfl⟩
         have anL:0≤dx∧dx<(((ar j oqd).1.length:Nat):Int):=by rw[H9];exact modn o! (by first | omega | exact SK _ _ _)
         obtain ⟨RV,RW,xx,_⟩:=Qa.elem (i:=dx.toNat) o!
         have C2:bO env (some (.slice 3)) (some z4) (some (Zi dx))=some (AV.ptr RV RW):=by rw[show (dx:Int)=((dx.toNat:Nat):Int) by omega];exact xx
         have Bs:bh env h6 3 (AV.ptr RV RW)=some (Zi ((ar j oqd).1.g dx.toNat)):=Qa.load o! xx
         rcases Bool.eq_false_or_eq_true (decide (0<((ar j oqd).1.g dx.toNat))) with f4 | f4
         · have R1:=of_decide_eq_true f4
           obtain ⟨JP,afy,D7,aok,akQ,UM⟩:=jE ji (aM.cells [] 3 false)
           have vk:Has h JP:=hZ.trans UM
           have PY:Has h6 JP:=UM
           obtain ⟨oE,tA,Ot,abr,Ou,aol,UN,abt,aom⟩:=WD (tys:= #[26,26]) (k:= .i64) D7 akQ (Qa.has PY) o! o! rfl rfl k! k! k! (bytes:=8) k! (z0:=Zi 0) k! rfl (by decide)
           have Ov:Has h Ot:=vk.trans UN
           have Cp:Has h6 Ot:=PY.trans UN
           obtain ⟨p26,q27,afz,_⟩:=Qa.elem (i:=dx.toNat) o!
           have akR:bO env (some (.slice 3)) (some z4) (some (Zi dx))=some (AV.ptr p26 q27):=by rw[show (dx:Int)=((dx.toNat:Nat):Int) by omega];exact afz
           have aee:bh env Ot 3 (AV.ptr p26 q27)=some (Zi ((ar j oqd).1.g dx.toNat)):=(Qa.has Cp).load o! afz
           obtain ⟨p30,q31,afA,_⟩:=Qa.elem (i:=dx.toNat) o!
           have akS:bO env (some (.slice 3)) (some z4) (some (Zi dx))=some (AV.ptr p30 q31):=by rw[show (dx:Int)=((dx.toNat:Nat):Int) by omega];exact afA
           have aef:bh env Ot 3 (AV.ptr p30 q31)=some (Zi ((ar j oqd).1.g dx.toNat)):=(Qa.has Cp).load o! afA
           obtain ⟨p34,q35,afB,_⟩:=Qa.elem (i:=dx.toNat) o!
           have akT:bO env (some (.slice 3)) (some z4) (some (Zi dx))=some (AV.ptr p34 q35):=by rw[show (dx:Int)=((dx.toNat:Nat):Int) by omega];exact afB
           have aeg:bh env Ot 3 (AV.ptr p34 q35)=some (Zi ((ar j oqd).1.g dx.toNat)):=(Qa.has Cp).load o! afB
           obtain ⟨n7,PZ⟩:∃q_:Int,q_=(Int.tmod (IntKind.i64.wrap ((Int.tmod oS ((ar j oqd).1.g dx.toNat))+((ar j oqd).1.g dx.toNat))) ((ar j oqd).1.g dx.toNat)):=⟨_,rfl⟩
           have anM:0≤n7∧n7<((ar j oqd).1.g dx.toNat):=by rw[PZ];exact modn o! (by first | omega | exact SK _ _ _)
           have akU:bO env (some (.slice 3)) (some (AV.slice oE 0 (ar j oqd).1.length (ar j oqd).1.length tA)) (some (Zi dx))=some (AV.ptr oE dx.toNat):=jc k! (show dx.toNat<((ar j oqd).1).length by omega) o!
           obtain ⟨SL,abu⟩:∃G4:aC,G4=Ot.put oE (some (aM.cells (zs .i64 ((ar j oqd).1.set dx.toNat n7)) 3 false)):=⟨_,rfl⟩
           have afC:dV env Ot 3 (AV.ptr oE dx.toNat) (Zi n7)=some SL:=by rw[abu];exact Bg k! abt l!
           have Kn:Iv Ot SL oE (aM.cells (zs .i64 ((ar j oqd).1.set dx.toNat n7)) 3 false):=by rw[abu];exact jD Ou abt
           have akV:=Kn.1
           have aon:SL.nx=Ot.nx:=by rw[abu];rfl
           have abv:Has h SL:=Kn.has Ov ch o!
           have akW:Has h6 SL:=Kn.has Cp ji o!
           have k39:=WI (d:=d) j ((ar j oqd).1.set dx.toNat n7) (aR.mono abv bV) (b8.own (op:=tA) (n:=((ar j oqd).1).length) k! k! Kn.2.1 l! o!) akV
           obtain ⟨akX,UO⟩:∃akX:Nat→AV,Ev env (cN (d+13)) mR ⟨((AV.agg [j.aw,j.ao])::bt::(Zi cT)::(Zi oS)::(Pt h.nx)::AV.undef::AV.undef::AV.undef::(AV.bool false)::z4::(Zi (ar j oqd).2)::(AV.bool (bR j ((ar j oqd).1.set dx.toNat n7)).1)::(Zi (bR j ((ar j oqd).1.set dx.toNat n7)).2)::(Zi dx)::(AV.slice oE 0 (ar j oqd).1.length (ar j oqd).1.length tA)::rx Ae 15 6 ((AV.bool (bif (fC j 8) then true else (decide (100<((oqd.length:Nat):Int)))))::AV.undef::(AV.tuple [z4,(Zi (ar j oqd).2)])::(AV.agg [j.aw,j.ao])::bt::(AV.tuple [z4,(Zi (ar j oqd).2)])::z4::(Zi (ar j oqd).2)::(Zi (ar j oqd).2)::(AV.bool (!decide ((ar j oqd).2=0)))::AV.undef::AV.undef::AV.undef::AV.undef::AV.undef::AV.undef::(AV.tuple [(AV.bool (bl j (ar j oqd).1).1),(Zi (bl j (ar j oqd).1).2)])::(AV.agg [j.aw,j.ao])::z4::(AV.tuple [(AV.bool (bl j (ar j oqd).1).1),(Zi (bl j (ar j oqd).1).2)])::(AV.bool (bl j (ar j oqd).1).1)::(Zi (bl j (ar j oqd).1).2)::rx yj9 43 5 ((AV.bool (bif (!decide ((bl j (ar j oqd).1).2=0)) then true else (!((bl j (ar j oqd).1).1))))::z4::(Zn (ar j oqd).1.length)::(AV.bool (decide ((((ar j oqd).1.length:Nat):Int)=0)))::AV.undef::(Zi cT)::z4::(Zn (ar j oqd).1.length)::(Zi (Int.tmod cT (((ar j oqd).1.length:Nat):Int)))::z4::(Zn (ar j oqd).1.length)::(Zi (IntKind.i64.wrap ((Int.tmod cT (((ar j oqd).1.length:Nat):Int))+(((ar j oqd).1.length:Nat):Int))))::z4::(Zn (ar j oqd).1.length)::(Zi dx)::z4::(Zi dx)::(AV.ptr RV RW)::(Zi ((ar j oqd).1.g dx.toNat))::(AV.bool (decide (0<((ar j oqd).1.g dx.toNat))))::(AV.slice h6.nx 0 0 0 false)::z4::(AV.slice oE 0 (ar j oqd).1.length (ar j oqd).1.length tA)::(AV.slice oE 0 (ar j oqd).1.length (ar j oqd).1.length tA)::(Zi dx)::(Zi oS)::z4::(Zi dx)::(AV.ptr p26 q27)::(Zi ((ar j oqd).1.g dx.toNat))::(Zi (Int.tmod oS ((ar j oqd).1.g dx.toNat)))::z4::(Zi dx)::(AV.ptr p30 q31)::(Zi ((ar j oqd).1.g dx.toNat))::(Zi (IntKind.i64.wrap ((Int.tmod oS ((ar j oqd).1.g dx.toNat))+((ar j oqd).1.g dx.toNat))))::z4::(Zi dx)::(AV.ptr p34 q35)::(Zi ((ar j oqd).1.g dx.toNat))::(Zi n7)::(AV.ptr oE dx.toNat)::(AV.tuple [(AV.bool (bR j ((ar j oqd).1.set dx.toNat n7)).1),(Zi (bR j ((ar j oqd).1.set dx.toNat n7)).2)])::(AV.agg [j.aw,j.ao])::(AV.slice oE 0 (ar j oqd).1.length (ar j oqd).1.length tA)::(AV.tuple [(AV.bool (bR j ((ar j oqd).1.set dx.toNat n7)).1),(Zi (bR j ((ar j oqd).1.set dx.toNat n7)).2)])::(AV.bool (bR j ((ar j oqd).1.set dx.toNat n7)).1)::(Zi (bR j ((ar j oqd).1.set dx.toNat n7)).2)::jX 6))),SL,[],.no⟩ .normal ⟨((AV.agg [j.aw,j.ao])::bt::(Zi cT)::(Zi oS)::(Pt h.nx)::AV.undef::AV.undef::AV.undef::(AV.bool false)::z4::(Zi (ar j oqd).2)::(AV.bool (bR j ((ar j oqd).1.set dx.toNat n7)).1)::(Zi (bR j ((ar j oqd).1.set dx.toNat n7)).2)::(Zi dx)::(AV.slice oE 0 (ar j oqd).1.length (ar j oqd).1.length tA)::rx Ae 15 6 ((AV.bool (bif (fC j 8) then true else (decide (100<((oqd.length:Nat):Int)))))::AV.undef::(AV.tuple [z4,(Zi (ar j oqd).2)])::(AV.agg [j.aw,j.ao])::bt::(AV.tuple [z4,(Zi (ar j oqd).2)])::z4::(Zi (ar j oqd).2)::(Zi (ar j oqd).2)::(AV.bool (!decide ((ar j oqd).2=0)))::AV.undef::AV.undef::AV.undef::AV.undef::AV.undef::AV.undef::(AV.tuple [(AV.bool (bl j (ar j oqd).1).1),(Zi (bl j (ar j oqd).1).2)])::(AV.agg [j.aw,j.ao])::z4::(AV.tuple [(AV.bool (bl j (ar j oqd).1).1),(Zi (bl j (ar j oqd).1).2)])::(AV.bool (bl j (ar j oqd).1).1)::(Zi (bl j (ar j oqd).1).2)::rx yj9 43 5 ((AV.bool (bif (!decide ((bl j (ar j oqd).1).2=0)) then true else (!((bl j (ar j oqd).1).1))))::z4::(Zn (ar j oqd).1.length)::(AV.bool (decide ((((ar j oqd).1.length:Nat):Int)=0)))::AV.undef::(Zi cT)::z4::(Zn (ar j oqd).1.length)::(Zi (Int.tmod cT (((ar j oqd).1.length:Nat):Int)))::z4::(Zn (ar j oqd).1.length)::(Zi (IntKind.i64.wrap ((Int.tmod cT (((ar j oqd).1.length:Nat):Int))+(((ar j oqd).1.length:Nat):Int))))::z4::(Zn (ar j oqd).1.length)::(Zi dx)::z4::(Zi dx)::(AV.ptr RV RW)::(Zi ((ar j oqd).1.g dx.toNat))::(AV.bool (decide (0<((ar j oqd).1.g dx.toNat))))::(AV.slice h6.nx 0 0 0 false)::z4::(AV.slice oE 0 (ar j oqd).1.length (ar j oqd).1.length tA)::(AV.slice oE 0 (ar j oqd).1.length (ar j oqd).1.length tA)::(Zi dx)::(Zi oS)::z4::(Zi dx)::(AV.ptr p26 q27)::(Zi ((ar j oqd).1.g dx.toNat))::(Zi (Int.tmod oS ((ar j oqd).1.g dx.toNat)))::z4::(Zi dx)::(AV.ptr p30 q31)::(Zi ((ar j oqd).1.g dx.toNat))::(Zi (IntKind.i64.wrap ((Int.tmod oS ((ar j oqd).1.g dx.toNat))+((ar j oqd).1.g dx.toNat))))::z4::(Zi dx)::(AV.ptr p34 q35)::(Zi ((ar j oqd).1.g dx.toNat))::(Zi n7)::(AV.ptr oE dx.toNat)::(AV.tuple [(AV.bool (bR j ((ar j oqd).1.set dx.toNat n7)).1),(Zi (bR j ((ar j oqd).1.set dx.toNat n7)).2)])::(AV.agg [j.aw,j.ao])::(AV.slice oE 0 (ar j oqd).1.length (ar j oqd).1.length tA)::(AV.tuple [(AV.bool (bR j ((ar j oqd).1.set dx.toNat n7)).1),(Zi (bR j ((ar j oqd).1.set dx.toNat n7)).2)])::(AV.bool (bR j ((ar j oqd).1.set dx.toNat n7)).1)::(Zi (bR j ((ar j oqd).1.set dx.toNat n7)).2)::rx akX 96 4 ((AV.bool (bif (!decide ((bR j ((ar j oqd).1.set dx.toNat n7)).2=0)) then true else (bR j ((ar j oqd).1.set dx.toNat n7)).1))::AV.undef::[])))),SL,[],.no⟩:=by
            rcases Bool.eq_false_or_eq_true (!decide ((bR j ((ar j oqd).1.set dx.toNat n7)).2=0)) with f0 | f0
            · have jf:=P7 f0
              have ev:=pk (d+13) mR ((AV.agg [j.aw,j.ao])::bt::(Zi cT)::(Zi oS)::(Pt h.nx)::AV.undef::AV.undef::AV.undef::(AV.bool false)::z4::(Zi (ar j oqd).2)::(AV.bool (bR j ((ar j oqd).1.set dx.toNat n7)).1)::(Zi (bR j ((ar j oqd).1.set dx.toNat n7)).2)::(Zi dx)::(AV.slice oE 0 (ar j oqd).1.length (ar j oqd).1.length tA)::rx Ae 15 6 ((AV.bool (bif (fC j 8) then true else (decide (100<((oqd.length:Nat):Int)))))::AV.undef::(AV.tuple [z4,(Zi (ar j oqd).2)])::(AV.agg [j.aw,j.ao])::bt::(AV.tuple [z4,(Zi (ar j oqd).2)])::z4::(Zi (ar j oqd).2)::(Zi (ar j oqd).2)::(AV.bool (!decide ((ar j oqd).2=0)))::AV.undef::AV.undef::AV.undef::AV.undef::AV.undef::AV.undef::(AV.tuple [(AV.bool (bl j (ar j oqd).1).1),(Zi (bl j (ar j oqd).1).2)])::(AV.agg [j.aw,j.ao])::z4::(AV.tuple [(AV.bool (bl j (ar j oqd).1).1),(Zi (bl j (ar j oqd).1).2)])::(AV.bool (bl j (ar j oqd).1).1)::(Zi (bl j (ar j oqd).1).2)::rx yj9 43 5 ((AV.bool (bif (!decide ((bl j (ar j oqd).1).2=0)) then true else (!((bl j (ar j oqd).1).1))))::z4::(Zn (ar j oqd).1.length)::(AV.bool (decide ((((ar j oqd).1.length:Nat):Int)=0)))::AV.undef::(Zi cT)::z4::(Zn (ar j oqd).1.length)::(Zi (Int.tmod cT (((ar j oqd).1.length:Nat):Int)))::z4::(Zn (ar j oqd).1.length)::(Zi (IntKind.i64.wrap ((Int.tmod cT (((ar j oqd).1.length:Nat):Int))+(((ar j oqd).1.length:Nat):Int))))::z4::(Zn (ar j oqd).1.length)::(Zi dx)::z4::(Zi dx)::(AV.ptr RV RW)::(Zi ((ar j oqd).1.g dx.toNat))::(AV.bool (decide (0<((ar j oqd).1.g dx.toNat))))::(AV.slice h6.nx 0 0 0 false)::z4::(AV.slice oE 0 (ar j oqd).1.length (ar j oqd).1.length tA)::(AV.slice oE 0 (ar j oqd).1.length (ar j oqd).1.length tA)::(Zi dx)::(Zi oS)::z4::(Zi dx)::(AV.ptr p26 q27)::(Zi ((ar j oqd).1.g dx.toNat))::(Zi (Int.tmod oS ((ar j oqd).1.g dx.toNat)))::z4::(Zi dx)::(AV.ptr p30 q31)::(Zi ((ar j oqd).1.g dx.toNat))::(Zi (IntKind.i64.wrap ((Int.tmod oS ((ar j oqd).1.g dx.toNat))+((ar j oqd).1.g dx.toNat))))::z4::(Zi dx)::(AV.ptr p34 q35)::(Zi ((ar j oqd).1.g dx.toNat))::(Zi n7)::(AV.ptr oE dx.toNat)::(AV.tuple [(AV.bool (bR j ((ar j oqd).1.set dx.toNat n7)).1),(Zi (bR j ((ar j oqd).1.set dx.toNat n7)).2)])::(AV.agg [j.aw,j.ao])::(AV.slice oE 0 (ar j oqd).1.length (ar j oqd).1.length tA)::(AV.tuple [(AV.bool (bR j ((ar j oqd).1.set dx.toNat n7)).1),(Zi (bR j ((ar j oqd).1.set dx.toNat n7)).2)])::(AV.bool (bR j ((ar j oqd).1.set dx.toNat n7)).1)::(Zi (bR j ((ar j oqd).1.set dx.toNat n7)).2)::jX 6))) SL .normal SL (CC<|VV (kS 29 false true .i64 (bR j ((ar j oqd).1.set dx.toNat n7)).2 0)<|CC<|BV f0 (yA true f0)<|ZZ) k!
              rw[show (bif (!decide ((bR j ((ar j oqd).1.set dx.toNat n7)).2=0)) then true else (bR j ((ar j oqd).1.set dx.toNat n7)).1)=true by simp only[f0,aj,ai]]
              exact kz ev k!
            · have jf:=P9 f0
              have ev:=pk (d+13) mR ((AV.agg [j.aw,j.ao])::bt::(Zi cT)::(Zi oS)::(Pt h.nx)::AV.undef::AV.undef::AV.undef::(AV.bool false)::z4::(Zi (ar j oqd).2)::(AV.bool (bR j ((ar j oqd).1.set dx.toNat n7)).1)::(Zi (bR j ((ar j oqd).1.set dx.toNat n7)).2)::(Zi dx)::(AV.slice oE 0 (ar j oqd).1.length (ar j oqd).1.length tA)::rx Ae 15 6 ((AV.bool (bif (fC j 8) then true else (decide (100<((oqd.length:Nat):Int)))))::AV.undef::(AV.tuple [z4,(Zi (ar j oqd).2)])::(AV.agg [j.aw,j.ao])::bt::(AV.tuple [z4,(Zi (ar j oqd).2)])::z4::(Zi (ar j oqd).2)::(Zi (ar j oqd).2)::(AV.bool (!decide ((ar j oqd).2=0)))::AV.undef::AV.undef::AV.undef::AV.undef::AV.undef::AV.undef::(AV.tuple [(AV.bool (bl j (ar j oqd).1).1),(Zi (bl j (ar j oqd).1).2)])::(AV.agg [j.aw,j.ao])::z4::(AV.tuple [(AV.bool (bl j (ar j oqd).1).1),(Zi (bl j (ar j oqd).1).2)])::(AV.bool (bl j (ar j oqd).1).1)::(Zi (bl j (ar j oqd).1).2)::rx yj9 43 5 ((AV.bool (bif (!decide ((bl j (ar j oqd).1).2=0)) then true else (!((bl j (ar j oqd).1).1))))::z4::(Zn (ar j oqd).1.length)::(AV.bool (decide ((((ar j oqd).1.length:Nat):Int)=0)))::AV.undef::(Zi cT)::z4::(Zn (ar j oqd).1.length)::(Zi (Int.tmod cT (((ar j oqd).1.length:Nat):Int)))::z4::(Zn (ar j oqd).1.length)::(Zi (IntKind.i64.wrap ((Int.tmod cT (((ar j oqd).1.length:Nat):Int))+(((ar j oqd).1.length:Nat):Int))))::z4::(Zn (ar j oqd).1.length)::(Zi dx)::z4::(Zi dx)::(AV.ptr RV RW)::(Zi ((ar j oqd).1.g dx.toNat))::(AV.bool (decide (0<((ar j oqd).1.g dx.toNat))))::(AV.slice h6.nx 0 0 0 false)::z4::(AV.slice oE 0 (ar j oqd).1.length (ar j oqd).1.length tA)::(AV.slice oE 0 (ar j oqd).1.length (ar j oqd).1.length tA)::(Zi dx)::(Zi oS)::z4::(Zi dx)::(AV.ptr p26 q27)::(Zi ((ar j oqd).1.g dx.toNat))::(Zi (Int.tmod oS ((ar j oqd).1.g dx.toNat)))::z4::(Zi dx)::(AV.ptr p30 q31)::(Zi ((ar j oqd).1.g dx.toNat))::(Zi (IntKind.i64.wrap ((Int.tmod oS ((ar j oqd).1.g dx.toNat))+((ar j oqd).1.g dx.toNat))))::z4::(Zi dx)::(AV.ptr p34 q35)::(Zi ((ar j oqd).1.g dx.toNat))::(Zi n7)::(AV.ptr oE dx.toNat)::(AV.tuple [(AV.bool (bR j ((ar j oqd).1.set dx.toNat n7)).1),(Zi (bR j ((ar j oqd).1.set dx.toNat n7)).2)])::(AV.agg [j.aw,j.ao])::(AV.slice oE 0 (ar j oqd).1.length (ar j oqd).1.length tA)::(AV.tuple [(AV.bool (bR j ((ar j oqd).1.set dx.toNat n7)).1),(Zi (bR j ((ar j oqd).1.set dx.toNat n7)).2)])::(AV.bool (bR j ((ar j oqd).1.set dx.toNat n7)).1)::(Zi (bR j ((ar j oqd).1.set dx.toNat n7)).2)::jX 6))) SL .normal SL (CC<|VV (kS 29 false true .i64 (bR j ((ar j oqd).1.set dx.toNat n7)).2 0)<|CC<|BC f0<|VV (cf (a:=some (AV.bool true)) (b:=some (AV.bool (bR j ((ar j oqd).1.set dx.toNat n7)).1)) f0)<|ZZ) k!
              rw[show (bif (!decide ((bR j ((ar j oqd).1.set dx.toNat n7)).2=0)) then true else (bR j ((ar j oqd).1.set dx.toNat n7)).1)=((bR j ((ar j oqd).1.set dx.toNat n7)).1) by simp only[f0,aj,ai]]
              exact kz ev k!
           rcases Bool.eq_false_or_eq_true (bif (!decide ((bR j ((ar j oqd).1.set dx.toNat n7)).2=0)) then true else (bR j ((ar j oqd).1.set dx.toNat n7)).1) with f5 | f5
           · have ev:=pk (d+13) eL ((AV.agg [j.aw,j.ao])::bt::(Zi cT)::(Zi oS)::jX 98) h .ret SL (NN di (fun i=>(Pt i))<|CC<|LL uE<|BM f0 (aO 25 0 (AV.agg [j.aw,j.ao]) bm k!)<|CC<|EE WJ<|CN 6<|VV (kS 29 false true .i64 (ar j oqd).2 0)<|BM f1 (aO 25 0 (AV.agg [j.aw,j.ao]) (vN.a _ _ bm) k!)<|CC<|EE k8<|CN 5<|LL H8<|BC f2<|VV aed<|VV (vE 3 false true .i64 (((ar j oqd).1.length:Nat):Int) 0)<|BB f3<|CN 2<|VV GP<|VV (show gQ env .rem 3 false false (some (Zi cT)) (some (Zn (ar j oqd).1.length))=some (Zi (Int.tmod cT (((ar j oqd).1.length:Nat):Int))) from jw o! rfl)<|CC<|VV LD<|CN 2<|VV Zr<|VV (show gQ env .rem 3 false false (some (Zi (IntKind.i64.wrap ((Int.tmod cT (((ar j oqd).1.length:Nat):Int))+(((ar j oqd).1.length:Nat):Int))))) (some (Zn (ar j oqd).1.length))=some (Zi dx) from jw o! H9.symm)<|CN 3<|VV C2<|MM Bs<|VV (dw 3 false true .i64 ((ar j oqd).1.g dx.toNat) 0)<|BB f4<|NN afy (fun i=>(AV.slice i 0 0 0 false))<|CC<|PP (show du env JP #[26,26] (AV.slice h6.nx 0 0 0 false) z4=some ((AV.slice oE 0 (ar j oqd).1.length (ar j oqd).1.length tA),Ot) from abr)<|CN 6<|VV akR<|MM aee<|VV (show gQ env .rem 3 false false (some (Zi oS)) (some (Zi ((ar j oqd).1.g dx.toNat)))=some (Zi (Int.tmod oS ((ar j oqd).1.g dx.toNat))) from jw o! rfl)<|CN 2<|VV akS<|MM aef<|CN 3<|VV akT<|MM aeg<|VV (show gQ env .rem 3 false false (some (Zi (IntKind.i64.wrap ((Int.tmod oS ((ar j oqd).1.g dx.toNat))+((ar j oqd).1.g dx.toNat))))) (some (Zi ((ar j oqd).1.g dx.toNat)))=some (Zi n7) from jw o! PZ.symm)<|VV akU<|SS afC<|HH aee<|HH (show AV.same 20 (Zi ((ar j oqd).1.g dx.toNat)) (Zi ((ar j oqd).1.g dx.toNat))=true from aS 19 _ _)<|HH aef<|HH (show AV.same 20 (Zi ((ar j oqd).1.g dx.toNat)) (Zi ((ar j oqd).1.g dx.toNat))=true from aS 19 _ _)<|HH aeg<|HH (show AV.same 20 (Zi ((ar j oqd).1.g dx.toNat)) (Zi ((ar j oqd).1.g dx.toNat))=true from aS 19 _ _)<|MM (aO 25 0 (AV.agg [j.aw,j.ao]) (Kn.2.2 _ _ o! (UN _ _ (UM _ _ (vN.a _ _ bm)))) k!)<|CC<|EE k39<|CN 5<|LL UO<|BC f5<|ZZ) k!
             subst PZ
             subst H9
             have e:cR j oqd cT oS=false:=by simp only[cR,f0,f1,f2,f3,f4,f5,aj,ai]
             rw[e]
             exact aH rfl (bb Tryz.func3 hQ k! (.inr rfl) ev k!) abv rfl
           · have k42:(cN (d+13)) (.fn 5) [] SL= .ret (.bool true) SL:=rfl
             have ev:=pk (d+13) eL ((AV.agg [j.aw,j.ao])::bt::(Zi cT)::(Zi oS)::jX 98) h .ret SL (NN di (fun i=>(Pt i))<|CC<|LL uE<|BM f0 (aO 25 0 (AV.agg [j.aw,j.ao]) bm k!)<|CC<|EE WJ<|CN 6<|VV (kS 29 false true .i64 (ar j oqd).2 0)<|BM f1 (aO 25 0 (AV.agg [j.aw,j.ao]) (vN.a _ _ bm) k!)<|CC<|EE k8<|CN 5<|LL H8<|BC f2<|VV aed<|VV (vE 3 false true .i64 (((ar j oqd).1.length:Nat):Int) 0)<|BB f3<|CN 2<|VV GP<|VV (show gQ env .rem 3 false false (some (Zi cT)) (some (Zn (ar j oqd).1.length))=some (Zi (Int.tmod cT (((ar j oqd).1.length:Nat):Int))) from jw o! rfl)<|CC<|VV LD<|CN 2<|VV Zr<|VV (show gQ env .rem 3 false false (some (Zi (IntKind.i64.wrap ((Int.tmod cT (((ar j oqd).1.length:Nat):Int))+(((ar j oqd).1.length:Nat):Int))))) (some (Zn (ar j oqd).1.length))=some (Zi dx) from jw o! H9.symm)<|CN 3<|VV C2<|MM Bs<|VV (dw 3 false true .i64 ((ar j oqd).1.g dx.toNat) 0)<|BB f4<|NN afy (fun i=>(AV.slice i 0 0 0 false))<|CC<|PP (show du env JP #[26,26] (AV.slice h6.nx 0 0 0 false) z4=some ((AV.slice oE 0 (ar j oqd).1.length (ar j oqd).1.length tA),Ot) from abr)<|CN 6<|VV akR<|MM aee<|VV (show gQ env .rem 3 false false (some (Zi oS)) (some (Zi ((ar j oqd).1.g dx.toNat)))=some (Zi (Int.tmod oS ((ar j oqd).1.g dx.toNat))) from jw o! rfl)<|CN 2<|VV akS<|MM aef<|CN 3<|VV akT<|MM aeg<|VV (show gQ env .rem 3 false false (some (Zi (IntKind.i64.wrap ((Int.tmod oS ((ar j oqd).1.g dx.toNat))+((ar j oqd).1.g dx.toNat))))) (some (Zi ((ar j oqd).1.g dx.toNat)))=some (Zi n7) from jw o! PZ.symm)<|VV akU<|SS afC<|HH aee<|HH (show AV.same 20 (Zi ((ar j oqd).1.g dx.toNat)) (Zi ((ar j oqd).1.g dx.toNat))=true from aS 19 _ _)<|HH aef<|HH (show AV.same 20 (Zi ((ar j oqd).1.g dx.toNat)) (Zi ((ar j oqd).1.g dx.toNat))=true from aS 19 _ _)<|HH aeg<|HH (show AV.same 20 (Zi ((ar j oqd).1.g dx.toNat)) (Zi ((ar j oqd).1.g dx.toNat))=true from aS 19 _ _)<|MM (aO 25 0 (AV.agg [j.aw,j.ao]) (Kn.2.2 _ _ o! (UN _ _ (UM _ _ (vN.a _ _ bm)))) k!)<|CC<|EE k39<|CN 5<|LL UO<|BB f5<|EE k42<|CC<|ZZ) k!
             subst PZ
             subst H9
             have e:cR j oqd cT oS=true:=by simp only[cR,f0,f1,f2,f3,f4,f5,aj,ai]
             rw[e]
             exact aH rfl (bb Tryz.func3 hQ k! (.inr rfl) ev k!) abv rfl
         · have R1:=of_decide_eq_false f4
           have k21:(cN (d+13)) (.fn 5) [] h6= .ret (.bool true) h6:=rfl
           have ev:=pk (d+13) eL ((AV.agg [j.aw,j.ao])::bt::(Zi cT)::(Zi oS)::jX 98) h .ret h6 (NN di (fun i=>(Pt i))<|CC<|LL uE<|BM f0 (aO 25 0 (AV.agg [j.aw,j.ao]) bm k!)<|CC<|EE WJ<|CN 6<|VV (kS 29 false true .i64 (ar j oqd).2 0)<|BM f1 (aO 25 0 (AV.agg [j.aw,j.ao]) (vN.a _ _ bm) k!)<|CC<|EE k8<|CN 5<|LL H8<|BC f2<|VV aed<|VV (vE 3 false true .i64 (((ar j oqd).1.length:Nat):Int) 0)<|BB f3<|CN 2<|VV GP<|VV (show gQ env .rem 3 false false (some (Zi cT)) (some (Zn (ar j oqd).1.length))=some (Zi (Int.tmod cT (((ar j oqd).1.length:Nat):Int))) from jw o! rfl)<|CC<|VV LD<|CN 2<|VV Zr<|VV (show gQ env .rem 3 false false (some (Zi (IntKind.i64.wrap ((Int.tmod cT (((ar j oqd).1.length:Nat):Int))+(((ar j oqd).1.length:Nat):Int))))) (some (Zn (ar j oqd).1.length))=some (Zi dx) from jw o! H9.symm)<|CN 3<|VV C2<|MM Bs<|VV (dw 3 false true .i64 ((ar j oqd).1.g dx.toNat) 0)<|BB f4<|EE k21<|CC<|ZZ) k!
           subst H9
           have e:cR j oqd cT oS=true:=by simp only[cR,f0,f1,f2,f3,f4,aj,ai]
           rw[e]
           exact aH rfl (bb Tryz.func3 hQ k! (.inr rfl) ev k!) hZ rfl
theorem WL {j:cx} (F:b5 j) {p:List Bool} {s:List Int} (T:Tm j s) (al:All j p) (pl:p.length=j.ab.length) (sl:s.length=j.ab.length) (A:Act j p s):oR j s=true:=by
 refine WC fun i hi q hq qi=>(B1 F T hi _).2 ⟨T i hi,fun n hn _=>(A.nd i hi (al i hi) n hn).2,fun ht u hu m m0 m1=>?_⟩
 have t:=T i hi
 have ur:=F.ur i hi u hu
 have r:=A.room (Int.toNat ((j.ab.g i).aA.g u).ah) o! m o!
 have e:=B0 (s:=s) (p:=p.set i false) hi (by rw[gG,if_pos ⟨rfl,by omega⟩]) (by rw[List.length_set];exact pl) sl (s.g i) (Int.toNat ((j.ab.g i).aA.g u).ah) m
 rw[H5,if_pos ⟨m0,m1⟩] at e
 have c1:te j ((p.set i false).set i true) s (Int.toNat ((j.ab.g i).aA.g u).ah) m=te j p s (Int.toNat ((j.ab.g i).aA.g u).ah) m:=yv fun x hx=>by
  refine ⟨?_,fun _=>rfl⟩
  rw[al x hx,gG]
  split
  · rfl
  · rename_i z
    rw[gG,if_neg fun y=>z ⟨y.1,by rw[List.length_set];exact y.2⟩];exact al x hx
 have c2:te j (p.set i false) s (Int.toNat ((j.ab.g i).aA.g u).ah) m=te j q s (Int.toNat ((j.ab.g i).aA.g u).ah) m:=yv fun x hx=>by
  refine ⟨?_,fun _=>rfl⟩
  by_cases z:x=i
  · subst z;rw[gG,if_pos ⟨rfl,by omega⟩,qi]
  · rw[gG,if_neg fun y=>z y.1.symm,hq x hx z];exact al x hx
 have us:=BZ F hi hu
 rw[show ((Int.toNat ((j.ab.g i).aA.g u).ah:Nat):Int)=((j.ab.g i).aA.g u).ah by omega,us] at e
 unfold W7
 omega
theorem aeh {j:cx} (F:b5 j) {p:List Bool} {s:List Int} (T:Tm j s) (al:All j p) (pl:p.length=j.ab.length) (sl:s.length=j.ab.length) (A:Act j p s) {n:Nat} (hn:n<j.ab.length) {v:Int} (v0:0≤v) (v1:v<s.g n):pw j (s.set n v)=false:=by
 cases h:pw j (s.set n v) with
 | false=>rfl
 | true=>
   exfalso
   obtain ⟨t,no,p',al',rm⟩:=WB F (by rw[List.length_set];exact sl) h
   have gx:(s.set n v).g n=v:=g7 o!
   rcases A.least n hn (al n hn) v v0 v1 with ⟨q,hq,b⟩ | ⟨u,m,hu,m0,m1,m2,b⟩
   · have k:=no n hn q hq
     have ns:=adB F hn q hq
     have nb:=F.nb n hn q hq
     rw[gx,bn (show n≠Int.toNat ((j.ab.g n).aB.g q) by omega)] at k
     omega
   · have ur:=F.ur n hn u hu
     have r:=rm (Int.toNat ((j.ab.g n).aA.g u).ah) o! m m0
     have e:=B0 (s:=s) (p:=p.set n false) hn (by rw[gG,if_pos ⟨rfl,by omega⟩]) (by rw[List.length_set];exact pl) sl v (Int.toNat ((j.ab.g n).aA.g u).ah) m
     rw[if_pos ⟨m1,m2⟩] at e
     have c:te j ((p.set n false).set n true) (s.set n v) (Int.toNat ((j.ab.g n).aA.g u).ah) m=te j p' (s.set n v) (Int.toNat ((j.ab.g n).aA.g u).ah) m:=yv fun x hx=>by
      refine ⟨?_,fun _=>rfl⟩
      rw[al' x hx,gG]
      split
      · rfl
      · rename_i z
        rw[gG,if_neg fun y=>z ⟨y.1,by rw[List.length_set];exact y.2⟩];exact al x hx
     have us:=BZ F hn hu
     rw[show ((Int.toNat ((j.ab.g n).aA.g u).ah:Nat):Int)=((j.ab.g n).aA.g u).ah by omega,us] at e
     omega
theorem ML (j:cx) (oqd:List Int) (cT oS:Int):cR j oqd cT oS=true:=by
 rw[cR]
 cases bif fC j 8 then true else decide (100<((oqd.length:Nat):Int)) with
 | true=>rfl
 | false=>
   rw[ai]
   by_cases e:(ar j oqd).2=0
   · obtain ⟨ck,F,sl,T,p,al,pl,A⟩:=AE j oqd e
     have nt:=F.nt
     have rk:=SK j oqd
     rw[decide_eq_true e,Bool.not_true,ai]
     generalize (ar j oqd).1=s at *
     have K:bl j s=(true,0):=by
      rw[bl,←aa8,decide_eq_true ck,aj,decide_eq_true (by omega:((s.length:Nat):Int)=((j.ab.length:Nat):Int))]
      rw[WL F T al pl sl A];rfl
     rw[K]
     show (bif decide (((s.length:Nat):Int)=0) then true else _)=true
     by_cases z:((s.length:Nat):Int)=0
     · rw[decide_eq_true z];rfl
     · rw[decide_eq_false z,ai]
       have md:=modn (a:=cT) (b:=((s.length:Nat):Int)) o! o!
       generalize Int.tmod (IntKind.i64.wrap (Int.tmod cT ((s.length:Nat):Int)+((s.length:Nat):Int))) ((s.length:Nat):Int)=n at *
       by_cases g:0<s.g (Int.toNat n)
       · rw[decide_eq_true g,aj]
         have mv:=modn (a:=oS) (b:=s.g (Int.toNat n)) g (rk _)
         generalize Int.tmod (IntKind.i64.wrap (Int.tmod oS (s.g (Int.toNat n))+s.g (Int.toNat n))) (s.g (Int.toNat n))=v at *
         have W:bR j (s.set (Int.toNat n) v)=(false,0):=by
          have c0:db j (s.set (Int.toNat n) v)=0:=by
           rw[db,ck,List.length_set,decide_eq_true (by omega:((s.length:Nat):Int)=((j.ab.length:Nat):Int))];rfl
          rw[bR,c0,aeh F T al pl sl A o! mv.1 mv.2];rfl
         rw[W];rfl
       · rw[decide_eq_false g];rfl
   · rw[decide_eq_false e,AD j oqd e];rfl
open Go.ChangeShapes Go.WideShapes Go.RowKit
structure Gx (φ φ':Ph) (h h':aC) (w:World):Prop where
 ok:OK env φ' h' w
 le:φ.le φ'
 ro:Bd h'
 has:Has h h'
 nx:h.nx≤h'.nx
 tidy:Tidy h'
theorem Gx.refl {φ:Ph} {h:aC} {w:World} (ok:OK env φ h w) (ro:Bd h) (y:Tidy h):Gx φ φ h h w:=⟨ok,Ph.le_refl _,ro,Has.refl _,Nat.le_refl _,y⟩
theorem Gx.trans {a b c:Ph} {h1 h2 h3:aC} {w:World} (x:Gx a b h1 h2 w) (y:Gx b c h2 h3 w):Gx a c h1 h3 w:=⟨y.ok,Ph.le_trans x.le y.le,y.ro,x.has.trans y.has,Nat.le_trans x.nx y.nx,y.tidy⟩
section
variable {H:Type} (enc:TypeId×Value→H) (w:World) (base:Nat) (spare:Nat→Bool) (held:Bool)
def Small (t:TypeId) (d:DataW H):Prop:=(DataW.weights env.P t d).all (· ≤reachBytes)=true
theorem Small.all {e:TypeId}:∀{l:List (DataW H)},(DataW.weightsAll env.P e l).all (· ≤reachBytes)=true→∀d∈l,Small e d
 | [],_,d,hd=>by cases hd
 | x::l,h,d,hd=>by
   rw[DataW.weightsAll,List.all_append,Bool.and_eq_true] at h
   rcases List.mem_cons.1 hd with rfl | hd
   · exact h.1
   · exact Small.all h.2 d hd
theorem Small.struct {t:TypeId} {fs:Array Field} {parts:List (DataW H)} (ht:env.P.underlying t=some (.struct fs)) (h:Small t (.agg parts)):(DataW.weightsEach env.P (fs.toList.map (·.type)) parts).all (· ≤reachBytes)=true:=by
 unfold Small at h
 rw[DataW.weights,ht] at h
 exact h
theorem Small.dv {t:TypeId} {ts:List TypeId} {d:DataW H} {ds:List (DataW H)} (h:(DataW.weightsEach env.P (t::ts) (d::ds)).all (· ≤reachBytes)=true):Small t d∧(DataW.weightsEach env.P ts ds).all (· ≤reachBytes)=true:=by
 rw[DataW.weightsEach,List.all_append,Bool.and_eq_true] at h
 exact h
theorem MN {n:Nat} (h:n≤reachBytes):n<2^60:=Nat.lt_of_le_of_lt h (by unfold reachBytes;decide)
theorem aW.Tz {α:Type} [aR α] {h:aC} {v:AV} {l:List α} {m:Nat} (x:aW h v l) (e:AV.map m=v):False:=by
 rcases x.known with rfl | rfl | ⟨p,o,n,c,b,rfl,_⟩<;>cases e
def px {D:Type} (t:TypeId) (sz:Nat) (c:D→List AV) (ok:aC→D→Prop):Prop:=
 ∀(φ:Ph) (h:aC),OK env φ h w→Bd h→Tidy h→∀(cs:List Value) (y:DataW H×List MemPlace) (n:Nat),cs.length=sz→Small t y.1→DataW.trod enc env.P w base spare held n t cs=some y→
  ∃φ' h' x,Gx φ φ' h h' w∧LR φ' (c x) cs∧ok h' x
variable {enc w base spare held}
theorem lO {k:IntKind} {t:TypeId} (ht:env.P.underlying t=some (.int k)):px enc w base spare held t 1 (fun x:Int=> [.int k x]) (fun _ _=>True):=fun φ h ok ro y cs z n _ hw hv=>by
 obtain ⟨m,rfl,_,_⟩:=DataW.trod_int ht hv
 exact ⟨φ,h,m,Gx.refl ok ro y,LR.cons (VR.int k m) (LR.nil _),trivial⟩
theorem Ko {t:TypeId} (ht:env.P.underlying t=some .string):px enc w base spare held t 1 (fun x:List UInt8=> [.str x]) (fun _ x=>x.length<2^60):=fun φ h ok ro y cs z n _ hw hv=>by
 obtain ⟨s,rfl,rfl,hs⟩:=DataW.trod_string ht hv
 refine ⟨φ,h,s.data.toList,Gx.refl ok ro y,LR.cons (VR.str s) (LR.nil _),?_⟩
 unfold Small at hw
 rw[DataW.weights,List.all_cons,Bool.and_eq_true] at hw
 exact MN (of_decide_eq_true hw.1)
theorem rQ {α:Type} [aR α] {t:TypeId} (ht:env.P.underlying t=some (.slice (aR.e α))) (hs:env.P.cellsOf (aR.e α)=aR.n α) (hby:0<env.P.bytesOf (aR.e α)) (hm:∀(h:aC) (x:α) m,aR.ok h x→AV.map m ∉ aR.c x)
 (he:px enc w base spare held (aR.e α) (aR.n α) (aR.c (α:=α)) aR.ok):px enc w base spare held t 1 (fun x:AV×List α=> [x.1]) (fun h x=>aW h x.1 x.2):=fun φ h ok ro y cs z fuel _ hw hv=>by
 have Qw:=aR.pos (α:=α)
 rcases DataW.trod_slice ht hv with ⟨rfl,_⟩ | ⟨a,len,cap,elems,rest,n,_,rfl,rfl,hb,hlc,hcm,air,iH,_,_⟩
 · exact ⟨φ,h,(.aG,[]),Gx.refl ok ro y,LR.cons VR.aG (LR.nil _),⟨aR.size,(Nat.zero_mul _).symm,Nat.pow_pos (by decide),rfl,.inl rfl⟩,.inl rfl,fun x hx=>by cases hx⟩
 rcases Nat.eq_zero_or_pos len with h0 | h0
 · subst h0
   exact ⟨φ,h,(.fD,[]),Gx.refl ok ro y,LR.cons (VR.fD a cap) (LR.nil _),⟨aR.size,(Nat.zero_mul _).symm,Nat.pow_pos (by decide),rfl,.inl rfl⟩,.inr (.inl rfl),fun x hx=>by cases hx⟩
 have Er:len<2^60∧(DataW.weightsAll env.P (aR.e α) (elems.map (·.1))).all (· ≤reachBytes)=true:=by
  unfold Small at hw
  rw[DataW.weights,ht] at hw
  simp only[List.all_cons,List.all_append,Bool.and_eq_true,List.length_map] at hw
  refine ⟨MN (Nat.le_trans ?_ (of_decide_eq_true hw.1)),hw.2.1⟩
  rw[air]
  exact Nat.le_trans (Nat.le_add_right _ _) (Nat.le_mul_of_pos_right _ hby)
 have all:∀m,m≤len→∃(φ':Ph) (h':aC) (xs:List α),Gx φ φ' h h' w∧xs.length=m∧(∀x∈xs,aR.ok h' x)∧∀(i:Nat) (x:α),xs[i]? =some x→∀j v,(aR.c x)[j]? =some v→∃y,w.cell? ((a.add (i*aR.n α)).add j)=some y∧VR φ' v y:=by
  intro m
  induction m with
  | zero=>exact fun _=>⟨φ,h,[],Gx.refl ok ro y,rfl,fun _ hx=>(by cases hx),fun i xi hx=>(by simp at hx)⟩
  | succ m ih=>
    intro hm'
    obtain ⟨φ1,h1,xs,g1,hl,hq,hx⟩:=ih o!
    have h2:=iH m o!
    rw[List.getElem?_eq_getElem o!,hs] at h2
    simp only[Option.bind_eq_some_iff] at h2
    obtain ⟨ci,hc1,hc2⟩:=h2
    obtain ⟨_,hl2,JA⟩:=World.cells?_some hc1
    obtain ⟨φ2,h2,x,g2,DE,rU⟩:=he φ1 h1 g1.ok g1.ro g1.tidy ci _ n hl2 (Small.all Er.2 _ (List.mem_map.2 ⟨_,List.getElem_mem _,rfl⟩)) hc2
    refine ⟨φ2,h2,xs++[x],g1.trans g2,by simp [hl],fun z hz=>?_,fun i z hz=>?_⟩
    · rcases List.mem_append.1 hz with h | h
      · exact aR.mono g2.has (hq z h)
      · simp at h;subst h;exact rU
    · by_cases hi:i<xs.length
      · rw[List.getElem?_append_left hi] at hz
        intro j v hj
        obtain ⟨q,e1,e2⟩:=hx i z hz j v hj
        exact ⟨q,e1,e2.mono g2.le⟩
      · rw[List.getElem?_append_right o!] at hz
        have:i - xs.length=0:=by
         have:=(List.getElem?_eq_some_iff.1 hz).1
         simp at this;omega
        rw[this] at hz
        simp at hz;subst hz
        have:i=m:=by omega
        subst this
        intro j v hj
        have sx:j<(aR.c x).length:=(List.getElem?_eq_some_iff.1 hj).1
        have hj2:j<ci.length:=by rw[←DE.1];exact sx
        exact ⟨ci[j],by rw[JA j (by rw[hl2] at hj2;exact hj2),List.getElem?_eq_getElem hj2],DE.2 j v _ hj (List.getElem?_eq_getElem hj2)⟩
 obtain ⟨φ1,h1,xs,g1,hl,hq,hx⟩:=all len (Nat.le_refl _)
 have Ok:=gR aR.len xs
 have Cq:a.spot=none:=by
  have hx0:xs[0]? =some (xs[0]'o!):=List.getElem?_eq_getElem o!
  obtain ⟨y,hy,_⟩:=hx 0 _ hx0 0 ((aR.c (xs[0]'o!))[0]'(by rw[aR.len];exact Qw)) (List.getElem?_eq_getElem _)
  simp only[Nat.zero_mul,Addr.add,if_true] at hy
  unfold World.cell? at hy
  split at hy
  · cases hsp:a.spot with
    | none=>rfl
    | some _=>rw[hsp] at hy;simp at hy
  · cases hy
 have abw:∀i j,(a.add (i*aR.n α)).add j=⟨a.block,a.off+(i*aR.n α+j),none⟩:=by
  intro i j
  obtain ⟨b,o,sp⟩:=a
  simp only at Cq
  subst Cq
  unfold Addr.add
  by_cases h1:i*aR.n α=0<;>by_cases h2:j=0<;>simp [h1,h2,Nat.add_assoc]
 have f':xs.flatMap aR.c≠ []:=by
  intro e
  have:=congrArg List.length e
  rw[Ok,hl] at this
  have:=Nat.mul_pos h0 Qw
  simp at *
  omega
 obtain ⟨h',hn,vf,hle,ais,anN,hg,hold,iZ⟩:=g1.ok.show g1.ro (b:=a.block) (off:=a.off) (e:=aR.e α) f' (fun m hm'=>by
  have:AV.map m∈xs.flatMap aR.c:=by rw[hm'];simp
  obtain ⟨z,hz,hmz⟩:=List.mem_flatMap.1 this
  exact hm h1 z m (hq z hz) hmz) (fun k v hk=>by
  have Ig:k<(xs.flatMap aR.c).length:=(List.getElem?_eq_some_iff.1 hk).1
  have hdm:k/aR.n α*aR.n α+k%aR.n α=k:=by rw[Nat.mul_comm];exact Nat.div_add_mod k _
  have hi:k/aR.n α<xs.length:=by
   rw[Ok] at Ig
   exact (Nat.div_lt_iff_lt_mul Qw).2 Ig
  have hk2:=hk
  rw[←hdm,wG aR.len _ _ _ hi (Nat.mod_lt _ Qw)] at hk2
  have hgi:xs[k/aR.n α]? =some (xs.g (k/aR.n α)):=by
   rw[List.g,List.getD_eq_getElem?_getD,List.getElem?_eq_getElem hi];rfl
  obtain ⟨y,hy,hvr⟩:=hx _ _ hgi _ v hk2
  rw[abw,hdm] at hy
  exact ⟨y,hy,hvr⟩)
 have hVR:=VR.slice (φ:=φ1.add h1.nx ⟨a.block,a.off,0⟩) 0 len cap false iZ
 have has:Has h1 h':=yi g1.tidy hn
 refine ⟨_,h',(.slice h1.nx 0 len cap false,xs),g1.trans ⟨vf,hle,ais,has,by omega,nk g1.tidy hn⟩,LR.cons ?_ (LR.nil _),?_⟩
 · obtain ⟨b,o,sp⟩:=a
   simp only at Cq
   subst Cq
   exact hVR
 · subst hl
   exact ⟨⟨aR.size,Ok,Er.1,rfl,.inr ⟨h1.nx,0,_,cap,false,_,_,true,rfl,hlc,hg,fun j _=>by rw[Nat.zero_add]⟩⟩,.inr (.inr ⟨_,_,_,_,_,rfl,fun e=>by cases e⟩),fun x hx=>aR.mono has (hq x hx)⟩
end
open Go.ChangeShapes Go.WideShapes Go.RowKit
section
variable {H:Type} {enc:TypeId×Value→H} {w:World} {base:Nat} {spare:Nat→Bool} {held:Bool}
theorem SM {α:Type} {t e_:TypeId} {n_:Nat} {c_:α→List AV} {ok_:aC→α→Prop} (M1:ca env e_=some n_) (hlen:∀x,(c_ x).length=n_) (afG:0<n_) (afD:∀{h h':aC} {x:α},Has h h'→ok_ h x→ok_ h' x) (hg_:∀(l:List α) (i:Nat) (hi:i<l.length),∃x,l[i]? =some x∧∀j,j<n_→(l.flatMap c_)[i*n_+j]? =(c_ x)[j]?) (ht:env.P.underlying t=some (.slice e_)) (hs:env.P.cellsOf e_=n_) (hby:0<env.P.bytesOf e_) (hm:∀(h:aC) (x:α) m,ok_ h x→AV.map m ∉ c_ x)
 (he:px enc w base spare held e_ n_ c_ ok_):px enc w base spare held t 1 (fun x:AV×List α=> [x.1]) (fun h x=>oI env h e_ n_ x.1 x.2.length (x.2.flatMap c_)∧(x.1= .aG∨x.1= .fD∨∃p o m c b,x.1= .slice p o m c b)∧∀y∈x.2,ok_ h y):=fun φ h ok ro y cs z fuel _ hw hv=>by
 have Qw:=afG
 rcases DataW.trod_slice ht hv with ⟨rfl,_⟩ | ⟨a,len,cap,elems,rest,n,_,rfl,rfl,hb,hlc,hcm,air,iH,_,_⟩
 · exact ⟨φ,h,(.aG,[]),Gx.refl ok ro y,LR.cons VR.aG (LR.nil _),⟨M1,(Nat.zero_mul _).symm,Nat.pow_pos (by decide),rfl,.inl rfl⟩,.inl rfl,fun x hx=>by cases hx⟩
 rcases Nat.eq_zero_or_pos len with h0 | h0
 · subst h0
   exact ⟨φ,h,(.fD,[]),Gx.refl ok ro y,LR.cons (VR.fD a cap) (LR.nil _),⟨M1,(Nat.zero_mul _).symm,Nat.pow_pos (by decide),rfl,.inl rfl⟩,.inr (.inl rfl),fun x hx=>by cases hx⟩
 have Er:len<2^60∧(DataW.weightsAll env.P (e_) (elems.map (·.1))).all (· ≤reachBytes)=true:=by
  unfold Small at hw
  rw[DataW.weights,ht] at hw
  simp only[List.all_cons,List.all_append,Bool.and_eq_true,List.length_map] at hw
  refine ⟨MN (Nat.le_trans ?_ (of_decide_eq_true hw.1)),hw.2.1⟩
  rw[air]
  exact Nat.le_trans (Nat.le_add_right _ _) (Nat.le_mul_of_pos_right _ hby)
 have all:∀m,m≤len→∃(φ':Ph) (h':aC) (xs:List α),Gx φ φ' h h' w∧xs.length=m∧(∀x∈xs,ok_ h' x)∧∀(i:Nat) (x:α),xs[i]? =some x→∀j v,(c_ x)[j]? =some v→∃y,w.cell? ((a.add (i*n_)).add j)=some y∧VR φ' v y:=by
  intro m
  induction m with
  | zero=>exact fun _=>⟨φ,h,[],Gx.refl ok ro y,rfl,fun _ hx=>(by cases hx),fun i xi hx=>(by simp at hx)⟩
  | succ m ih=>
    intro hm'
    obtain ⟨φ1,h1,xs,g1,hl,hq,hx⟩:=ih o!
    have h2:=iH m o!
    rw[List.getElem?_eq_getElem o!,hs] at h2
    simp only[Option.bind_eq_some_iff] at h2
    obtain ⟨ci,hc1,hc2⟩:=h2
    obtain ⟨_,hl2,JA⟩:=World.cells?_some hc1
    obtain ⟨φ2,h2,x,g2,DE,rU⟩:=he φ1 h1 g1.ok g1.ro g1.tidy ci _ n hl2 (Small.all Er.2 _ (List.mem_map.2 ⟨_,List.getElem_mem _,rfl⟩)) hc2
    refine ⟨φ2,h2,xs++[x],g1.trans g2,by simp [hl],fun z hz=>?_,fun i z hz=>?_⟩
    · rcases List.mem_append.1 hz with h | h
      · exact afD g2.has (hq z h)
      · simp at h;subst h;exact rU
    · by_cases hi:i<xs.length
      · rw[List.getElem?_append_left hi] at hz
        intro j v hj
        obtain ⟨q,e1,e2⟩:=hx i z hz j v hj
        exact ⟨q,e1,e2.mono g2.le⟩
      · rw[List.getElem?_append_right o!] at hz
        have:i - xs.length=0:=by
         have:=(List.getElem?_eq_some_iff.1 hz).1
         simp at this;omega
        rw[this] at hz
        simp at hz;subst hz
        have:i=m:=by omega
        subst this
        intro j v hj
        have sx:j<(c_ x).length:=(List.getElem?_eq_some_iff.1 hj).1
        have hj2:j<ci.length:=by rw[←DE.1];exact sx
        exact ⟨ci[j],by rw[JA j (by rw[hl2] at hj2;exact hj2),List.getElem?_eq_getElem hj2],DE.2 j v _ hj (List.getElem?_eq_getElem hj2)⟩
 obtain ⟨φ1,h1,xs,g1,hl,hq,hx⟩:=all len (Nat.le_refl _)
 have Ok:=gR hlen xs
 have Cq:a.spot=none:=by
  have hx0:xs[0]? =some (xs[0]'o!):=List.getElem?_eq_getElem o!
  obtain ⟨y,hy,_⟩:=hx 0 _ hx0 0 ((c_ (xs[0]'o!))[0]'(by rw[hlen];exact Qw)) (List.getElem?_eq_getElem _)
  simp only[Nat.zero_mul,Addr.add,if_true] at hy
  unfold World.cell? at hy
  split at hy
  · cases hsp:a.spot with
    | none=>rfl
    | some _=>rw[hsp] at hy;simp at hy
  · cases hy
 have abw:∀i j,(a.add (i*n_)).add j=⟨a.block,a.off+(i*n_+j),none⟩:=by
  intro i j
  obtain ⟨b,o,sp⟩:=a
  simp only at Cq
  subst Cq
  unfold Addr.add
  by_cases h1:i*n_=0<;>by_cases h2:j=0<;>simp [h1,h2,Nat.add_assoc]
 have f':xs.flatMap c_≠ []:=by
  intro e
  have:=congrArg List.length e
  rw[Ok,hl] at this
  have:=Nat.mul_pos h0 Qw
  simp at *
  omega
 obtain ⟨h',hn,vf,hle,ais,anN,hg,hold,iZ⟩:=g1.ok.show g1.ro (b:=a.block) (off:=a.off) (e:=e_) f' (fun m hm'=>by
  have:AV.map m∈xs.flatMap c_:=by rw[hm'];simp
  obtain ⟨z,hz,hmz⟩:=List.mem_flatMap.1 this
  exact hm h1 z m (hq z hz) hmz) (fun k v hk=>by
  have Ig:k<(xs.flatMap c_).length:=(List.getElem?_eq_some_iff.1 hk).1
  have hdm:k/n_*n_+k%n_=k:=by rw[Nat.mul_comm];exact Nat.div_add_mod k _
  have hi:k/n_<xs.length:=by
   rw[Ok] at Ig
   exact (Nat.div_lt_iff_lt_mul Qw).2 Ig
  have hk2:=hk
  obtain ⟨xk,hgi,hgj⟩:=hg_ xs _ hi
  rw[←hdm,hgj _ (Nat.mod_lt _ Qw)] at hk2
  obtain ⟨y,hy,hvr⟩:=hx _ _ hgi _ v hk2
  rw[abw,hdm] at hy
  exact ⟨y,hy,hvr⟩)
 have hVR:=VR.slice (φ:=φ1.add h1.nx ⟨a.block,a.off,0⟩) 0 len cap false iZ
 have has:Has h1 h':=yi g1.tidy hn
 refine ⟨_,h',(.slice h1.nx 0 len cap false,xs),g1.trans ⟨vf,hle,ais,has,by omega,nk g1.tidy hn⟩,LR.cons ?_ (LR.nil _),?_⟩
 · obtain ⟨b,o,sp⟩:=a
   simp only at Cq
   subst Cq
   exact hVR
 · subst hl
   exact ⟨⟨M1,Ok,Er.1,rfl,.inr ⟨h1.nx,0,_,cap,false,_,_,true,rfl,hlc,hg,fun j _=>by rw[Nat.zero_add]⟩⟩,.inr (.inr ⟨_,_,_,_,_,rfl⟩),fun x hx=>afD has (hq x hx)⟩
theorem MO (k:IntKind):∀l:List Int,(l.flatMap fun x=> [AV.int k x])=zs k l
 | []=>rfl
 | x::l=>by rw[List.flatMap_cons,MO k l];rfl
theorem aei (k:IntKind) (l:List Int) (i:Nat) (hi:i<l.length):∃x,l[i]? =some x∧∀j,j<1→(l.flatMap fun x=> [AV.int k x])[i*1+j]? =[AV.int k x][j]? :=by
 refine ⟨l[i],List.getElem?_eq_getElem hi,fun j hj=>?_⟩
 have:j=0:=by omega
 subst this
 rw[MO,zs,List.getElem?_map,Nat.mul_one,Nat.add_zero,List.getElem?_eq_getElem hi];rfl
theorem SN {k:IntKind} {t e:TypeId} (ht:env.P.underlying t=some (.slice e)) (hi:env.P.underlying e=some (.int k)) (M1:ca env e=some 1) (ha:gq env e=some false) (hs:env.P.cellsOf e=1) (hby:0<env.P.bytesOf e):px enc w base spare held t 1 (fun x:AV×List Int=> [x.1]) (fun h x=>b8 h k e x.1 x.2):=fun φ h ok ro y cs z n hl hw hv=>by
 obtain ⟨φ',h',x,g,l,a,b,_⟩:=SM (ok_:=fun _ _=>True) (c_:=fun x:Int=> [.int k x]) M1 (fun _=>rfl) (by decide) (fun _ _=>trivial) (aei k) ht hs hby (fun _ x m _ hmm=>by simp at hmm) (lO hi) φ h ok ro y cs z n hl hw hv
 refine ⟨φ',h',x,g,l,?_⟩
 rw[MO] at a
 exact b8.mk a ha b
end
end
end Go.Proofs.aQ
