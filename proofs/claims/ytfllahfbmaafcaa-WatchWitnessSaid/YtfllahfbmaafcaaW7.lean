import Derived.Test.YtfllahfbmaafcaaW0
import Derived.Test.YtfllahfbmaafcaaW6
import Derived.Test.YtfllahfbmaafcaaW5
import Derived.Test.YtfllahfbmaafcaaW3
set_option linter.unusedVariables false
set_option linter.unusedSimpArgs false
namespace Go.Proofs.aG
open Go.Proofs Ab
noncomputable section
set_option maxRecDepth 100000
set_option maxHeartbeats 4000000
theorem jb {p:Prop} (h:p:=by first | omega | (simp only[List.length_set,List.length_append,List.length_cons,List.length_nil];omega)):p:=h
theorem CZ {p:Prop} (h:p:=by first | omega | (simp only[List.length_set];omega)):p:=h
def yh:Code:=(Try.f47.body).getD .skip
theorem adM:Try.f47.body=some yh:=by kernel_rfl
def aaQ:Code:=(cc yh).getD 0 .skip
def aaR:Code:=(cc yh).getD 1 .skip
def iV (q:aD) (n:Nat):Nat→Nat→List Gate→Option (List Gate)
 | 0,_,ao=>some ao
 | dQ+1,i0,ao=>(bif (decide (((ao.set i0 (⟨(ao.g i0).time,(bw (⟨(ao.g i0).aw,(ao.g i0).ar⟩:Span) (⟨(IntKind.i64.wrap ((ao.g (i0 - 1)).aw -(IntKind.i64.wrap (q.aI*(IntKind.i64.wrap ((ao.g i0).time -((ao.g (i0 - 1)).time))))))),(IntKind.i64.wrap (((ao.g (i0 - 1)).ar)+(IntKind.i64.wrap (q.aH*(IntKind.i64.wrap ((ao.g i0).time -((ao.g (i0 - 1)).time)))))))⟩:Span)).ay,(bw (⟨(ao.g i0).aw,(ao.g i0).ar⟩:Span) (⟨(IntKind.i64.wrap ((ao.g (i0 - 1)).aw -(IntKind.i64.wrap (q.aI*(IntKind.i64.wrap ((ao.g i0).time -((ao.g (i0 - 1)).time))))))),(IntKind.i64.wrap (((ao.g (i0 - 1)).ar)+(IntKind.i64.wrap (q.aH*(IntKind.i64.wrap ((ao.g i0).time -((ao.g (i0 - 1)).time)))))))⟩:Span)).aq⟩:Gate)).g i0).ar<(((ao.set i0 (⟨(ao.g i0).time,(bw (⟨(ao.g i0).aw,(ao.g i0).ar⟩:Span) (⟨(IntKind.i64.wrap ((ao.g (i0 - 1)).aw -(IntKind.i64.wrap (q.aI*(IntKind.i64.wrap ((ao.g i0).time -((ao.g (i0 - 1)).time))))))),(IntKind.i64.wrap (((ao.g (i0 - 1)).ar)+(IntKind.i64.wrap (q.aH*(IntKind.i64.wrap ((ao.g i0).time -((ao.g (i0 - 1)).time)))))))⟩:Span)).ay,(bw (⟨(ao.g i0).aw,(ao.g i0).ar⟩:Span) (⟨(IntKind.i64.wrap ((ao.g (i0 - 1)).aw -(IntKind.i64.wrap (q.aI*(IntKind.i64.wrap ((ao.g i0).time -((ao.g (i0 - 1)).time))))))),(IntKind.i64.wrap (((ao.g (i0 - 1)).ar)+(IntKind.i64.wrap (q.aH*(IntKind.i64.wrap ((ao.g i0).time -((ao.g (i0 - 1)).time)))))))⟩:Span)).aq⟩:Gate)).g i0).aw))) then none else iV q n dQ (i0+1) (ao.set i0 (⟨(ao.g i0).time,(bw (⟨(ao.g i0).aw,(ao.g i0).ar⟩:Span) (⟨(IntKind.i64.wrap ((ao.g (i0 - 1)).aw -(IntKind.i64.wrap (q.aI*(IntKind.i64.wrap ((ao.g i0).time -((ao.g (i0 - 1)).time))))))),(IntKind.i64.wrap (((ao.g (i0 - 1)).ar)+(IntKind.i64.wrap (q.aH*(IntKind.i64.wrap ((ao.g i0).time -((ao.g (i0 - 1)).time)))))))⟩:Span)).ay,(bw (⟨(ao.g i0).aw,(ao.g i0).ar⟩:Span) (⟨(IntKind.i64.wrap ((ao.g (i0 - 1)).aw -(IntKind.i64.wrap (q.aI*(IntKind.i64.wrap ((ao.g i0).time -((ao.g (i0 - 1)).time))))))),(IntKind.i64.wrap (((ao.g (i0 - 1)).ar)+(IntKind.i64.wrap (q.aH*(IntKind.i64.wrap ((ao.g i0).time -((ao.g (i0 - 1)).time)))))))⟩:Span)).aq⟩:Gate)))
theorem Hu {d:Nat} {h:aA} (n:Nat) (op:Bool) (q:aD) (bL:Nat) (gI:Nat) (bF:q.name.length<2^60) (eZ:aY h q.az q.aC) (kG:aF.ok h q) (bS:Tidy h) (pU:h.nx≤bL) (WR:h.get gI=none) (LH:gI≠bL):∀(k_ i_:Nat) (ao:List Gate) (_:i_+k_=n) (_:(List.length ao=n∧n≤20∧1≤i_)) (x:Nat→AV) (hh:aA) (aQ:Tidy hh) (aW:Has h hh) (gQ:h.nx≤hh.nx) (bG:hh.get bL=some (aX.cells [(AV.str q.name),(Zi q.ai),(Zi q.af),(Zi q.aH),(Zi q.aI),(Zi q.bad),q.az] 26 false)) (o6:hh.get gI=some (aX.cells (List.flatMap (aF.c (α:=Gate)) ao) 66 false)),im (σ:=List Gate) (ζ:=Unit) (cz (d+7)) aaQ ⟨((x 0)::(x 1)::(Pt bL)::(x 3)::(x 4)::(AV.slice gI 0 n n op)::(Zn i_)::rx x 7 121 []),hh,[],.no⟩ (.exit 0) hh (fun r z y=>((y 0)::(y 1)::(Pt bL)::(y 3)::(y 4)::(AV.slice gI 0 n n op)::rx y 6 122 [])) (fun r z hk=>Has h hk∧hk.get bL=some (aX.cells [(AV.str q.name),(Zi q.ai),(Zi q.af),(Zi q.aH),(Zi q.aI),(Zi q.bad),q.az] 26 false)∧hk.get gI=some (aX.cells (List.flatMap (aF.c (α:=Gate)) r) 66 false)∧(List.length r=n∧n≤20∧1≤n)) (fun y=>((y 0)::(y 1)::(Pt bL)::(y 3)::AV.aP::(AV.slice gI 0 n n op)::rx y 6 122 [])) (fun hk=>Has h hk) (iV q n k_ i_ ao)
 | 0,i0,ao,kY,Hc,x,hh,aQ,aW,gQ,bG,o6=>by
   have vP:=eZ.small
   have pS:=aQ _ _ bG
   have aad:=aQ _ _ o6
   have q1:(decide (((i0:Nat):Int)<((n:Nat):Int)))=false:=d!
   exact im.out ao () rfl (pk (d+7) _ _ hh _ hh (CN 3<|VV (bK 3 false false .i64 ((i0:Nat):Int) ((n:Nat):Int))<|BB q1<|ZZ) k!) aQ o! ⟨aW,bG,o6,(show (List.length ao=n∧n≤20∧1≤n) from CZ)⟩ k!
 | dQ+1,i0,ao,kY,Hc,x,hh,aQ,aW,gQ,bG,o6=>by
   have vP:=eZ.small
   have pS:=aQ _ _ bG
   have aad:=aQ _ _ o6
   have q1:(decide (((i0:Nat):Int)<((n:Nat):Int)))=true:=d!
   have u2:=Lu 3 false true i0 1 o! o!
   have tb:cK env (some (.slice 66)) (some (AV.slice gI 0 n n op)) (some (Zn (i0 - 1)))=some (AV.ptr gI (0+(i0 - 1)*3)):=cA (size:=3) k! (show (i0 - 1)<n by omega)
   have ld4:bk env hh 23 (AV.ptr gI ((0+(i0 - 1)*3)+1))=some (AV.agg [(Zi (ao.g (i0 - 1)).aw),(Zi (ao.g (i0 - 1)).ar)]):=ny (i:=(i0 - 1)) (j:=1) (n:=2) o6 rfl jb k! k! (by decide) rfl
   have ix5:cK env (some (.slice 66)) (some (AV.slice gI 0 n n op)) (some (Zn i0))=some (AV.ptr gI (0+i0*3)):=cA (size:=3) k! (show i0<n by omega)
   have qv:bk env hh 3 (AV.ptr gI ((0+i0*3)+0))=some (Zi (ao.g i0).time):=iD (i:=i0) (j:=0) o6 rfl jb k! rfl
   have u7:=Lu 3 false true i0 1 o! o!
   have ND:cK env (some (.slice 66)) (some (AV.slice gI 0 n n op)) (some (Zn (i0 - 1)))=some (AV.ptr gI (0+(i0 - 1)*3)):=cA (size:=3) k! (show (i0 - 1)<n by omega)
   have WN:bk env hh 3 (AV.ptr gI ((0+(i0 - 1)*3)+0))=some (Zi (ao.g (i0 - 1)).time):=iD (i:=(i0 - 1)) (j:=0) o6 rfl jb k! rfl
   obtain ⟨mA,E_,fZ,TG,yi,fq⟩:=fY aQ (aX.cells [(Zi 0),(Zi 0)] 23 false)
   have ik:Has h mA:=aW.trans fq
   have C1:Has hh mA:=fq
   obtain ⟨qH,C2,tN,N5,kr,dv⟩:=rA (t:=23) (n:=2) (i:=hh.nx) (L:=[(Zi (ao.g (i0 - 1)).aw),(Zi (ao.g (i0 - 1)).ar)]) fZ yi k! rfl rfl (by simp only[AV.cells,List.all_cons,List.all_nil,Bool.and_true,Bool.and_self,eL,dw,eM,eN,cH,gZ,g_,hB,hD,hI,eO])
   have kQ:Has h qH:=Has.cS ik dv bS o!
   have TH:Has hh qH:=Has.cS C1 dv aQ o!
   have Px:AV.same 20 (AV.agg [(Zi (ao.g (i0 - 1)).aw),(Zi (ao.g (i0 - 1)).ar)]) (AV.agg [(Zi (ao.g (i0 - 1)).aw),(Zi (ao.g (i0 - 1)).ar)])=true:=dM 18 (iC (fun n=>aJ n _ _) (iC (fun n=>aJ n _ _) DC))
   have G9:cK env (some (.slice 66)) (some (AV.slice gI 0 n n op)) (some (Zn i0))=some (AV.ptr gI (0+i0*3)):=cA (size:=3) k! (show i0<n by omega)
   have xH:bk env qH 23 (AV.ptr gI ((0+i0*3)+1))=some (AV.agg [(Zi (ao.g i0).aw),(Zi (ao.g i0).ar)]):=ny (i:=i0) (j:=1) (n:=2) (dv _ _ o! (fq _ _ o6)) rfl jb k! k! (by decide) rfl
   have Kv:=CY (d:=d+6) (⟨(ao.g i0).aw,(ao.g i0).ar⟩:Span) (⟨(IntKind.i64.wrap ((ao.g (i0 - 1)).aw -(IntKind.i64.wrap (q.aI*(IntKind.i64.wrap ((ao.g i0).time -((ao.g (i0 - 1)).time))))))),(IntKind.i64.wrap (((ao.g (i0 - 1)).ar)+(IntKind.i64.wrap (q.aH*(IntKind.i64.wrap ((ao.g i0).time -((ao.g (i0 - 1)).time)))))))⟩:Span) trivial trivial tN
   have Md:cK env (some (.slice 66)) (some (AV.slice gI 0 n n op)) (some (Zn i0))=some (AV.ptr gI (0+i0*3)):=cA (size:=3) k! (show i0<n by omega)
   obtain ⟨N6,Me,N7,adN,C3,C4⟩:=ya (i:=i0) (j:=1) (t:=23) (n:=2) (v:=(AV.agg [(Zi (bw (⟨(ao.g i0).aw,(ao.g i0).ar⟩:Span) (⟨(IntKind.i64.wrap ((ao.g (i0 - 1)).aw -(IntKind.i64.wrap (q.aI*(IntKind.i64.wrap ((ao.g i0).time -((ao.g (i0 - 1)).time))))))),(IntKind.i64.wrap (((ao.g (i0 - 1)).ar)+(IntKind.i64.wrap (q.aH*(IntKind.i64.wrap ((ao.g i0).time -((ao.g (i0 - 1)).time)))))))⟩:Span)).ay),(Zi (bw (⟨(ao.g i0).aw,(ao.g i0).ar⟩:Span) (⟨(IntKind.i64.wrap ((ao.g (i0 - 1)).aw -(IntKind.i64.wrap (q.aI*(IntKind.i64.wrap ((ao.g i0).time -((ao.g (i0 - 1)).time))))))),(IntKind.i64.wrap (((ao.g (i0 - 1)).ar)+(IntKind.i64.wrap (q.aH*(IntKind.i64.wrap ((ao.g i0).time -((ao.g (i0 - 1)).time)))))))⟩:Span)).aq)])) (x:=(⟨(ao.g i0).time,(bw (⟨(ao.g i0).aw,(ao.g i0).ar⟩:Span) (⟨(IntKind.i64.wrap ((ao.g (i0 - 1)).aw -(IntKind.i64.wrap (q.aI*(IntKind.i64.wrap ((ao.g i0).time -((ao.g (i0 - 1)).time))))))),(IntKind.i64.wrap (((ao.g (i0 - 1)).ar)+(IntKind.i64.wrap (q.aH*(IntKind.i64.wrap ((ao.g i0).time -((ao.g (i0 - 1)).time)))))))⟩:Span)).ay,(bw (⟨(ao.g i0).aw,(ao.g i0).ar⟩:Span) (⟨(IntKind.i64.wrap ((ao.g (i0 - 1)).aw -(IntKind.i64.wrap (q.aI*(IntKind.i64.wrap ((ao.g i0).time -((ao.g (i0 - 1)).time))))))),(IntKind.i64.wrap (((ao.g (i0 - 1)).ar)+(IntKind.i64.wrap (q.aH*(IntKind.i64.wrap ((ao.g i0).time -((ao.g (i0 - 1)).time)))))))⟩:Span)).aq⟩:Gate)) tN (dv _ _ o! (fq _ _ o6)) rfl jb k! rfl (by decide) (by simp [AV.cells,AV.scalar]) rfl
   have TI:fE env qH 23 (AV.ptr gI ((0+i0*3)+1)) (AV.agg [(Zi (bw (⟨(ao.g i0).aw,(ao.g i0).ar⟩:Span) (⟨(IntKind.i64.wrap ((ao.g (i0 - 1)).aw -(IntKind.i64.wrap (q.aI*(IntKind.i64.wrap ((ao.g i0).time -((ao.g (i0 - 1)).time))))))),(IntKind.i64.wrap (((ao.g (i0 - 1)).ar)+(IntKind.i64.wrap (q.aH*(IntKind.i64.wrap ((ao.g i0).time -((ao.g (i0 - 1)).time)))))))⟩:Span)).ay),(Zi (bw (⟨(ao.g i0).aw,(ao.g i0).ar⟩:Span) (⟨(IntKind.i64.wrap ((ao.g (i0 - 1)).aw -(IntKind.i64.wrap (q.aI*(IntKind.i64.wrap ((ao.g i0).time -((ao.g (i0 - 1)).time))))))),(IntKind.i64.wrap (((ao.g (i0 - 1)).ar)+(IntKind.i64.wrap (q.aH*(IntKind.i64.wrap ((ao.g i0).time -((ao.g (i0 - 1)).time)))))))⟩:Span)).aq)])=some N6:=Me
   have N8:Has h N6:=Has.mh kQ C4 WR
   have c18:AV.same 20 (AV.agg [(Zi (ao.g i0).aw),(Zi (ao.g i0).ar)]) (AV.agg [(Zi (ao.g i0).aw),(Zi (ao.g i0).ar)])=true:=dM 18 (iC (fun n=>aJ n _ _) (iC (fun n=>aJ n _ _) DC))
   have TB:cK env (some (.slice 66)) (some (AV.slice gI 0 n n op)) (some (Zn i0))=some (AV.ptr gI (0+i0*3)):=cA (size:=3) k! (show i0<n by omega)
   have LM:bk env N6 3 (AV.ptr gI (((0+i0*3)+1)+0))=some (Zi ((ao.set i0 (⟨(ao.g i0).time,(bw (⟨(ao.g i0).aw,(ao.g i0).ar⟩:Span) (⟨(IntKind.i64.wrap ((ao.g (i0 - 1)).aw -(IntKind.i64.wrap (q.aI*(IntKind.i64.wrap ((ao.g i0).time -((ao.g (i0 - 1)).time))))))),(IntKind.i64.wrap (((ao.g (i0 - 1)).ar)+(IntKind.i64.wrap (q.aH*(IntKind.i64.wrap ((ao.g i0).time -((ao.g (i0 - 1)).time)))))))⟩:Span)).ay,(bw (⟨(ao.g i0).aw,(ao.g i0).ar⟩:Span) (⟨(IntKind.i64.wrap ((ao.g (i0 - 1)).aw -(IntKind.i64.wrap (q.aI*(IntKind.i64.wrap ((ao.g i0).time -((ao.g (i0 - 1)).time))))))),(IntKind.i64.wrap (((ao.g (i0 - 1)).ar)+(IntKind.i64.wrap (q.aH*(IntKind.i64.wrap ((ao.g i0).time -((ao.g (i0 - 1)).time)))))))⟩:Span)).aq⟩:Gate)).g i0).aw):=iD (i:=i0) (j:=1) C3 rfl jb k! rfl
   have agj:cK env (some (.slice 66)) (some (AV.slice gI 0 n n op)) (some (Zn i0))=some (AV.ptr gI (0+i0*3)):=cA (size:=3) k! (show i0<n by omega)
   have W6:bk env N6 3 (AV.ptr gI (((0+i0*3)+1)+1))=some (Zi ((ao.set i0 (⟨(ao.g i0).time,(bw (⟨(ao.g i0).aw,(ao.g i0).ar⟩:Span) (⟨(IntKind.i64.wrap ((ao.g (i0 - 1)).aw -(IntKind.i64.wrap (q.aI*(IntKind.i64.wrap ((ao.g i0).time -((ao.g (i0 - 1)).time))))))),(IntKind.i64.wrap (((ao.g (i0 - 1)).ar)+(IntKind.i64.wrap (q.aH*(IntKind.i64.wrap ((ao.g i0).time -((ao.g (i0 - 1)).time)))))))⟩:Span)).ay,(bw (⟨(ao.g i0).aw,(ao.g i0).ar⟩:Span) (⟨(IntKind.i64.wrap ((ao.g (i0 - 1)).aw -(IntKind.i64.wrap (q.aI*(IntKind.i64.wrap ((ao.g i0).time -((ao.g (i0 - 1)).time))))))),(IntKind.i64.wrap (((ao.g (i0 - 1)).ar)+(IntKind.i64.wrap (q.aH*(IntKind.i64.wrap ((ao.g i0).time -((ao.g (i0 - 1)).time)))))))⟩:Span)).aq⟩:Gate)).g i0).ar):=iD (i:=i0) (j:=2) C3 rfl jb k! rfl
   have mV:=fun {al ps} (k:Pk al _ ps)=>(CN 3<|VV (bK 3 false false .i64 ((i0:Nat):Int) ((n:Nat):Int))<|BB q1<|CN 2<|VV u2<|VV tb<|CC<|MM ld4<|CN 2<|VV ix5<|CC<|MM qv<|CN 2<|VV u7<|VV ND<|CC<|MM WN<|CC<|NN E_ (fun i=>(Pt i))<|SS C2<|CC<|HH (show bk env mA 23 (AV.ptr gI ((0+(i0 - 1)*3)+1))=some (AV.agg [(Zi (ao.g (i0 - 1)).aw),(Zi (ao.g (i0 - 1)).ar)]) from (ny (i:=(i0 - 1)) (j:=1) (n:=2) (fq _ _ o6) rfl jb k! k! (by decide) rfl))<|HH Px<|HH (show bk env mA 3 (AV.ptr gI ((0+i0*3)+0))=some (Zi (ao.g i0).time) from (iD (i:=i0) (j:=0) (fq _ _ o6) rfl jb k! rfl))<|HH (show AV.same 20 (Zi (ao.g i0).time) (Zi (ao.g i0).time)=true from aJ 19 _ _)<|HH (show bk env qH 3 (AV.ptr gI ((0+i0*3)+0))=some (Zi (ao.g i0).time) from (iD (i:=i0) (j:=0) (dv _ _ o! (fq _ _ o6)) rfl jb k! rfl))<|HH (show AV.same 20 (Zi (ao.g i0).time) (Zi (ao.g i0).time)=true from aJ 19 _ _)<|HH (show bk env mA 3 (AV.ptr gI ((0+(i0 - 1)*3)+0))=some (Zi (ao.g (i0 - 1)).time) from (iD (i:=(i0 - 1)) (j:=0) (fq _ _ o6) rfl jb k! rfl))<|HH (show AV.same 20 (Zi (ao.g (i0 - 1)).time) (Zi (ao.g (i0 - 1)).time)=true from aJ 19 _ _)<|HH (show bk env qH 3 (AV.ptr gI ((0+(i0 - 1)*3)+0))=some (Zi (ao.g (i0 - 1)).time) from (iD (i:=(i0 - 1)) (j:=0) (dv _ _ o! (fq _ _ o6)) rfl jb k! rfl))<|HH (show AV.same 20 (Zi (ao.g (i0 - 1)).time) (Zi (ao.g (i0 - 1)).time)=true from aJ 19 _ _)<|HH (show ∃o,mA.get hh.nx=some o∧aX.same o (aX.cells [(Zi 0),(Zi 0)] 23 false)=true from ⟨_,yi,by simp [aX.same,da,AV.same]⟩)<|CN 4<|VV G9<|CC<|MM xH<|CC<|MM (aO 3 0 (Zi (ao.g (i0 - 1)).aw) kr k!)<|CC<|MM (aO 3 4 (Zi q.aI) (dv _ _ o! (fq _ _ bG)) k!)<|CN 4<|MM (aO 3 1 (Zi (ao.g (i0 - 1)).ar) kr k!)<|CC<|MM (aO 3 3 (Zi q.aH) (dv _ _ o! (fq _ _ bG)) k!)<|CN 4<|EE Kv<|VV Md<|CC<|SS TI<|HH (show bk env qH 23 (AV.ptr gI ((0+i0*3)+1))=some (AV.agg [(Zi (ao.g i0).aw),(Zi (ao.g i0).ar)]) from (ny (i:=i0) (j:=1) (n:=2) (dv _ _ o! (fq _ _ o6)) rfl jb k! k! (by decide) rfl))<|HH c18<|HH (aO 3 0 (Zi (ao.g (i0 - 1)).aw) kr k!)<|HH (show AV.same 20 (Zi (ao.g (i0 - 1)).aw) (Zi (ao.g (i0 - 1)).aw)=true from aJ 19 _ _)<|HH (aO 3 4 (Zi q.aI) (dv _ _ o! (fq _ _ bG)) k!)<|HH (show AV.same 20 (Zi q.aI) (Zi q.aI)=true from aJ 19 _ _)<|HH (aO 3 1 (Zi (ao.g (i0 - 1)).ar) kr k!)<|HH (show AV.same 20 (Zi (ao.g (i0 - 1)).ar) (Zi (ao.g (i0 - 1)).ar)=true from aJ 19 _ _)<|HH (aO 3 3 (Zi q.aH) (dv _ _ o! (fq _ _ bG)) k!)<|HH (show AV.same 20 (Zi q.aH) (Zi q.aH)=true from aJ 19 _ _)<|CN 2<|VV TB<|CN 2<|MM LM<|CN 2<|VV agj<|CN 2<|MM W6<|VV (cI 3 false false .i64 ((ao.set i0 (⟨(ao.g i0).time,(bw (⟨(ao.g i0).aw,(ao.g i0).ar⟩:Span) (⟨(IntKind.i64.wrap ((ao.g (i0 - 1)).aw -(IntKind.i64.wrap (q.aI*(IntKind.i64.wrap ((ao.g i0).time -((ao.g (i0 - 1)).time))))))),(IntKind.i64.wrap (((ao.g (i0 - 1)).ar)+(IntKind.i64.wrap (q.aH*(IntKind.i64.wrap ((ao.g i0).time -((ao.g (i0 - 1)).time)))))))⟩:Span)).ay,(bw (⟨(ao.g i0).aw,(ao.g i0).ar⟩:Span) (⟨(IntKind.i64.wrap ((ao.g (i0 - 1)).aw -(IntKind.i64.wrap (q.aI*(IntKind.i64.wrap ((ao.g i0).time -((ao.g (i0 - 1)).time))))))),(IntKind.i64.wrap (((ao.g (i0 - 1)).ar)+(IntKind.i64.wrap (q.aH*(IntKind.i64.wrap ((ao.g i0).time -((ao.g (i0 - 1)).time)))))))⟩:Span)).aq⟩:Gate)).g i0).aw ((ao.set i0 (⟨(ao.g i0).time,(bw (⟨(ao.g i0).aw,(ao.g i0).ar⟩:Span) (⟨(IntKind.i64.wrap ((ao.g (i0 - 1)).aw -(IntKind.i64.wrap (q.aI*(IntKind.i64.wrap ((ao.g i0).time -((ao.g (i0 - 1)).time))))))),(IntKind.i64.wrap (((ao.g (i0 - 1)).ar)+(IntKind.i64.wrap (q.aH*(IntKind.i64.wrap ((ao.g i0).time -((ao.g (i0 - 1)).time)))))))⟩:Span)).ay,(bw (⟨(ao.g i0).aw,(ao.g i0).ar⟩:Span) (⟨(IntKind.i64.wrap ((ao.g (i0 - 1)).aw -(IntKind.i64.wrap (q.aI*(IntKind.i64.wrap ((ao.g i0).time -((ao.g (i0 - 1)).time))))))),(IntKind.i64.wrap (((ao.g (i0 - 1)).ar)+(IntKind.i64.wrap (q.aH*(IntKind.i64.wrap ((ao.g i0).time -((ao.g (i0 - 1)).time)))))))⟩:Span)).aq⟩:Gate)).g i0).ar)<|HH (show bk env N6 3 (AV.ptr gI (((0+i0*3)+1)+0))=some (Zi ((ao.set i0 (⟨(ao.g i0).time,(bw (⟨(ao.g i0).aw,(ao.g i0).ar⟩:Span) (⟨(IntKind.i64.wrap ((ao.g (i0 - 1)).aw -(IntKind.i64.wrap (q.aI*(IntKind.i64.wrap ((ao.g i0).time -((ao.g (i0 - 1)).time))))))),(IntKind.i64.wrap (((ao.g (i0 - 1)).ar)+(IntKind.i64.wrap (q.aH*(IntKind.i64.wrap ((ao.g i0).time -((ao.g (i0 - 1)).time)))))))⟩:Span)).ay,(bw (⟨(ao.g i0).aw,(ao.g i0).ar⟩:Span) (⟨(IntKind.i64.wrap ((ao.g (i0 - 1)).aw -(IntKind.i64.wrap (q.aI*(IntKind.i64.wrap ((ao.g i0).time -((ao.g (i0 - 1)).time))))))),(IntKind.i64.wrap (((ao.g (i0 - 1)).ar)+(IntKind.i64.wrap (q.aH*(IntKind.i64.wrap ((ao.g i0).time -((ao.g (i0 - 1)).time)))))))⟩:Span)).aq⟩:Gate)).g i0).aw) from (iD (i:=i0) (j:=1) C3 rfl jb k! rfl))<|HH (show AV.same 20 (Zi ((ao.set i0 (⟨(ao.g i0).time,(bw (⟨(ao.g i0).aw,(ao.g i0).ar⟩:Span) (⟨(IntKind.i64.wrap ((ao.g (i0 - 1)).aw -(IntKind.i64.wrap (q.aI*(IntKind.i64.wrap ((ao.g i0).time -((ao.g (i0 - 1)).time))))))),(IntKind.i64.wrap (((ao.g (i0 - 1)).ar)+(IntKind.i64.wrap (q.aH*(IntKind.i64.wrap ((ao.g i0).time -((ao.g (i0 - 1)).time)))))))⟩:Span)).ay,(bw (⟨(ao.g i0).aw,(ao.g i0).ar⟩:Span) (⟨(IntKind.i64.wrap ((ao.g (i0 - 1)).aw -(IntKind.i64.wrap (q.aI*(IntKind.i64.wrap ((ao.g i0).time -((ao.g (i0 - 1)).time))))))),(IntKind.i64.wrap (((ao.g (i0 - 1)).ar)+(IntKind.i64.wrap (q.aH*(IntKind.i64.wrap ((ao.g i0).time -((ao.g (i0 - 1)).time)))))))⟩:Span)).aq⟩:Gate)).g i0).aw) (Zi ((ao.set i0 (⟨(ao.g i0).time,(bw (⟨(ao.g i0).aw,(ao.g i0).ar⟩:Span) (⟨(IntKind.i64.wrap ((ao.g (i0 - 1)).aw -(IntKind.i64.wrap (q.aI*(IntKind.i64.wrap ((ao.g i0).time -((ao.g (i0 - 1)).time))))))),(IntKind.i64.wrap (((ao.g (i0 - 1)).ar)+(IntKind.i64.wrap (q.aH*(IntKind.i64.wrap ((ao.g i0).time -((ao.g (i0 - 1)).time)))))))⟩:Span)).ay,(bw (⟨(ao.g i0).aw,(ao.g i0).ar⟩:Span) (⟨(IntKind.i64.wrap ((ao.g (i0 - 1)).aw -(IntKind.i64.wrap (q.aI*(IntKind.i64.wrap ((ao.g i0).time -((ao.g (i0 - 1)).time))))))),(IntKind.i64.wrap (((ao.g (i0 - 1)).ar)+(IntKind.i64.wrap (q.aH*(IntKind.i64.wrap ((ao.g i0).time -((ao.g (i0 - 1)).time)))))))⟩:Span)).aq⟩:Gate)).g i0).aw)=true from aJ 19 _ _)<|HH (show bk env N6 3 (AV.ptr gI (((0+i0*3)+1)+1))=some (Zi ((ao.set i0 (⟨(ao.g i0).time,(bw (⟨(ao.g i0).aw,(ao.g i0).ar⟩:Span) (⟨(IntKind.i64.wrap ((ao.g (i0 - 1)).aw -(IntKind.i64.wrap (q.aI*(IntKind.i64.wrap ((ao.g i0).time -((ao.g (i0 - 1)).time))))))),(IntKind.i64.wrap (((ao.g (i0 - 1)).ar)+(IntKind.i64.wrap (q.aH*(IntKind.i64.wrap ((ao.g i0).time -((ao.g (i0 - 1)).time)))))))⟩:Span)).ay,(bw (⟨(ao.g i0).aw,(ao.g i0).ar⟩:Span) (⟨(IntKind.i64.wrap ((ao.g (i0 - 1)).aw -(IntKind.i64.wrap (q.aI*(IntKind.i64.wrap ((ao.g i0).time -((ao.g (i0 - 1)).time))))))),(IntKind.i64.wrap (((ao.g (i0 - 1)).ar)+(IntKind.i64.wrap (q.aH*(IntKind.i64.wrap ((ao.g i0).time -((ao.g (i0 - 1)).time)))))))⟩:Span)).aq⟩:Gate)).g i0).ar) from (iD (i:=i0) (j:=2) C3 rfl jb k! rfl))<|HH (show AV.same 20 (Zi ((ao.set i0 (⟨(ao.g i0).time,(bw (⟨(ao.g i0).aw,(ao.g i0).ar⟩:Span) (⟨(IntKind.i64.wrap ((ao.g (i0 - 1)).aw -(IntKind.i64.wrap (q.aI*(IntKind.i64.wrap ((ao.g i0).time -((ao.g (i0 - 1)).time))))))),(IntKind.i64.wrap (((ao.g (i0 - 1)).ar)+(IntKind.i64.wrap (q.aH*(IntKind.i64.wrap ((ao.g i0).time -((ao.g (i0 - 1)).time)))))))⟩:Span)).ay,(bw (⟨(ao.g i0).aw,(ao.g i0).ar⟩:Span) (⟨(IntKind.i64.wrap ((ao.g (i0 - 1)).aw -(IntKind.i64.wrap (q.aI*(IntKind.i64.wrap ((ao.g i0).time -((ao.g (i0 - 1)).time))))))),(IntKind.i64.wrap (((ao.g (i0 - 1)).ar)+(IntKind.i64.wrap (q.aH*(IntKind.i64.wrap ((ao.g i0).time -((ao.g (i0 - 1)).time)))))))⟩:Span)).aq⟩:Gate)).g i0).ar) (Zi ((ao.set i0 (⟨(ao.g i0).time,(bw (⟨(ao.g i0).aw,(ao.g i0).ar⟩:Span) (⟨(IntKind.i64.wrap ((ao.g (i0 - 1)).aw -(IntKind.i64.wrap (q.aI*(IntKind.i64.wrap ((ao.g i0).time -((ao.g (i0 - 1)).time))))))),(IntKind.i64.wrap (((ao.g (i0 - 1)).ar)+(IntKind.i64.wrap (q.aH*(IntKind.i64.wrap ((ao.g i0).time -((ao.g (i0 - 1)).time)))))))⟩:Span)).ay,(bw (⟨(ao.g i0).aw,(ao.g i0).ar⟩:Span) (⟨(IntKind.i64.wrap ((ao.g (i0 - 1)).aw -(IntKind.i64.wrap (q.aI*(IntKind.i64.wrap ((ao.g i0).time -((ao.g (i0 - 1)).time))))))),(IntKind.i64.wrap (((ao.g (i0 - 1)).ar)+(IntKind.i64.wrap (q.aH*(IntKind.i64.wrap ((ao.g i0).time -((ao.g (i0 - 1)).time)))))))⟩:Span)).aq⟩:Gate)).g i0).ar)=true from aJ 19 _ _)<|k:Pk _ [] ps)
   rcases bZq (decide (((ao.set i0 (⟨(ao.g i0).time,(bw (⟨(ao.g i0).aw,(ao.g i0).ar⟩:Span) (⟨(IntKind.i64.wrap ((ao.g (i0 - 1)).aw -(IntKind.i64.wrap (q.aI*(IntKind.i64.wrap ((ao.g i0).time -((ao.g (i0 - 1)).time))))))),(IntKind.i64.wrap (((ao.g (i0 - 1)).ar)+(IntKind.i64.wrap (q.aH*(IntKind.i64.wrap ((ao.g i0).time -((ao.g (i0 - 1)).time)))))))⟩:Span)).ay,(bw (⟨(ao.g i0).aw,(ao.g i0).ar⟩:Span) (⟨(IntKind.i64.wrap ((ao.g (i0 - 1)).aw -(IntKind.i64.wrap (q.aI*(IntKind.i64.wrap ((ao.g i0).time -((ao.g (i0 - 1)).time))))))),(IntKind.i64.wrap (((ao.g (i0 - 1)).ar)+(IntKind.i64.wrap (q.aH*(IntKind.i64.wrap ((ao.g i0).time -((ao.g (i0 - 1)).time)))))))⟩:Span)).aq⟩:Gate)).g i0).ar<(((ao.set i0 (⟨(ao.g i0).time,(bw (⟨(ao.g i0).aw,(ao.g i0).ar⟩:Span) (⟨(IntKind.i64.wrap ((ao.g (i0 - 1)).aw -(IntKind.i64.wrap (q.aI*(IntKind.i64.wrap ((ao.g i0).time -((ao.g (i0 - 1)).time))))))),(IntKind.i64.wrap (((ao.g (i0 - 1)).ar)+(IntKind.i64.wrap (q.aH*(IntKind.i64.wrap ((ao.g i0).time -((ao.g (i0 - 1)).time)))))))⟩:Span)).ay,(bw (⟨(ao.g i0).aw,(ao.g i0).ar⟩:Span) (⟨(IntKind.i64.wrap ((ao.g (i0 - 1)).aw -(IntKind.i64.wrap (q.aI*(IntKind.i64.wrap ((ao.g i0).time -((ao.g (i0 - 1)).time))))))),(IntKind.i64.wrap (((ao.g (i0 - 1)).ar)+(IntKind.i64.wrap (q.aH*(IntKind.i64.wrap ((ao.g i0).time -((ao.g (i0 - 1)).time)))))))⟩:Span)).aq⟩:Gate)).g i0).aw))) with f1 | f1
   · have ic:=of_decide_eq_true f1
     exact im.ret (by simp only[iV,f1,ak,aj]) (pk (d+7) _ _ hh _ N6 (mV<|BC f1<|ZZ) k!) N7 o! N8 k!
   · have ic:=of_decide_eq_false f1
     have u24:=fu 3 false true i0 1 o!
     exact im.round (by simp only[iV,f1,ak,aj]) (pk (d+7) _ _ hh _ N6 (mV<|BC f1<|VV u24<|CC<|ZZ) k!) o! _ k! (fun x=>Hu n op q bL gI bF eZ kG bS pU WR LH dQ (i0+1) (ao.set i0 (⟨(ao.g i0).time,(bw (⟨(ao.g i0).aw,(ao.g i0).ar⟩:Span) (⟨(IntKind.i64.wrap ((ao.g (i0 - 1)).aw -(IntKind.i64.wrap (q.aI*(IntKind.i64.wrap ((ao.g i0).time -((ao.g (i0 - 1)).time))))))),(IntKind.i64.wrap (((ao.g (i0 - 1)).ar)+(IntKind.i64.wrap (q.aH*(IntKind.i64.wrap ((ao.g i0).time -((ao.g (i0 - 1)).time)))))))⟩:Span)).ay,(bw (⟨(ao.g i0).aw,(ao.g i0).ar⟩:Span) (⟨(IntKind.i64.wrap ((ao.g (i0 - 1)).aw -(IntKind.i64.wrap (q.aI*(IntKind.i64.wrap ((ao.g i0).time -((ao.g (i0 - 1)).time))))))),(IntKind.i64.wrap (((ao.g (i0 - 1)).ar)+(IntKind.i64.wrap (q.aH*(IntKind.i64.wrap ((ao.g i0).time -((ao.g (i0 - 1)).time)))))))⟩:Span)).aq⟩:Gate)) o! (show (List.length (ao.set i0 (⟨(ao.g i0).time,(bw (⟨(ao.g i0).aw,(ao.g i0).ar⟩:Span) (⟨(IntKind.i64.wrap ((ao.g (i0 - 1)).aw -(IntKind.i64.wrap (q.aI*(IntKind.i64.wrap ((ao.g i0).time -((ao.g (i0 - 1)).time))))))),(IntKind.i64.wrap (((ao.g (i0 - 1)).ar)+(IntKind.i64.wrap (q.aH*(IntKind.i64.wrap ((ao.g i0).time -((ao.g (i0 - 1)).time)))))))⟩:Span)).ay,(bw (⟨(ao.g i0).aw,(ao.g i0).ar⟩:Span) (⟨(IntKind.i64.wrap ((ao.g (i0 - 1)).aw -(IntKind.i64.wrap (q.aI*(IntKind.i64.wrap ((ao.g i0).time -((ao.g (i0 - 1)).time))))))),(IntKind.i64.wrap (((ao.g (i0 - 1)).ar)+(IntKind.i64.wrap (q.aH*(IntKind.i64.wrap ((ao.g i0).time -((ao.g (i0 - 1)).time)))))))⟩:Span)).aq⟩:Gate))=n∧n≤20∧1≤(i0+1)) from CZ) x N6 N7 N8 o! (C4 _ _ o! (dv _ _ o! (fq _ _ bG))) C3)
def jy (q:aD):Nat→Nat→List Gate→List Gate
 | 0,_,aN=>aN
 | bD+1,i1,aN=>jy q bD (i1+1) (aN.set bD (⟨(aN.g bD).time,(bw (⟨(aN.g bD).aw,(aN.g bD).ar⟩:Span) (⟨(IntKind.i64.wrap ((aN.g (bD+1)).aw -(IntKind.i64.wrap (q.aH*(IntKind.i64.wrap ((aN.g (bD+1)).time -((aN.g bD).time))))))),(IntKind.i64.wrap (((aN.g (bD+1)).ar)+(IntKind.i64.wrap (q.aI*(IntKind.i64.wrap ((aN.g (bD+1)).time -((aN.g bD).time)))))))⟩:Span)).ay,(bw (⟨(aN.g bD).aw,(aN.g bD).ar⟩:Span) (⟨(IntKind.i64.wrap ((aN.g (bD+1)).aw -(IntKind.i64.wrap (q.aH*(IntKind.i64.wrap ((aN.g (bD+1)).time -((aN.g bD).time))))))),(IntKind.i64.wrap (((aN.g (bD+1)).ar)+(IntKind.i64.wrap (q.aI*(IntKind.i64.wrap ((aN.g (bD+1)).time -((aN.g bD).time)))))))⟩:Span)).aq⟩:Gate))
theorem N9 {d:Nat} {h:aA} (n:Nat) (op:Bool) (q:aD) (dz:Nat) (iA:Nat) (iv:q.name.length<2^60) (oX:aY h q.az q.aC) (AG:aF.ok h q) (bS:Tidy h) (D2:h.nx≤dz) (W7:h.get iA=none) (Mf:iA≠dz):∀(k_ i_:Nat) (aN:List Gate) (ci1:Int) (_:ci1=((k_:Nat):Int) - 1) (_:i_+k_=(n - 1)) (_:(List.length aN=n∧n≤20)) (x:Nat→AV) (hh:aA) (aQ:Tidy hh) (aW:Has h hh) (gQ:h.nx≤hh.nx) (dP:hh.get dz=some (aX.cells [(AV.str q.name),(Zi q.ai),(Zi q.af),(Zi q.aH),(Zi q.aI),(Zi q.bad),q.az] 26 false)) (om:hh.get iA=some (aX.cells (List.flatMap (aF.c (α:=Gate)) aN) 66 false)),e_ (σ:=List Gate) (ζ:=Unit) (cz (d+7)) aaR ⟨((x 0)::(x 1)::(Pt dz)::(x 3)::(x 4)::(AV.slice iA 0 n n op)::rx x 6 3 ((Zi ci1)::rx x 10 118 [])),hh,[],.no⟩ (.exit 2) hh (fun r z y=>((y 0)::(y 1)::(Pt dz)::(y 3)::(y 4)::(AV.slice iA 0 n n op)::rx y 6 122 [])) (fun r z hk=>Has h hk∧hk.get dz=some (aX.cells [(AV.str q.name),(Zi q.ai),(Zi q.af),(Zi q.aH),(Zi q.aI),(Zi q.bad),q.az] 26 false)∧hk.get iA=some (aX.cells (List.flatMap (aF.c (α:=Gate)) r) 66 false)∧(List.length r=n∧n≤20)) (jy q k_ i_ aN)
 | 0,i1,aN,ci1,hci,kY,Hc,x,hh,aQ,aW,gQ,dP,om=>by
   obtain rfl:ci1= -1:=by omega
   have Cd:=oX.small
   have Ce:=aQ _ _ dP
   have aaS:=aQ _ _ om
   exact e_.out aN () rfl (pk (d+7) _ _ hh _ hh (CN 2<|FF<|ZZ) k!) aQ o! ⟨aW,dP,om,(show (List.length aN=n∧n≤20) from CZ)⟩ k!
 | bD+1,i1,aN,ci1,hci,kY,Hc,x,hh,aQ,aW,gQ,dP,om=>by
   obtain rfl:ci1=((bD:Nat):Int):=by omega
   have Cd:=oX.small
   have Ce:=aQ _ _ dP
   have aaS:=aQ _ _ om
   have q1:(decide (0≤((bD:Nat):Int)))=true:=d!
   have u2:=fu 3 false true bD 1 o!
   have tb:cK env (some (.slice 66)) (some (AV.slice iA 0 n n op)) (some (Zn (bD+1)))=some (AV.ptr iA (0+(bD+1)*3)):=cA (size:=3) k! (show (bD+1)<n by omega)
   have ld4:bk env hh 23 (AV.ptr iA ((0+(bD+1)*3)+1))=some (AV.agg [(Zi (aN.g (bD+1)).aw),(Zi (aN.g (bD+1)).ar)]):=ny (i:=(bD+1)) (j:=1) (n:=2) om rfl jb k! k! (by decide) rfl
   have u5:=fu 3 false true bD 1 o!
   have Po:cK env (some (.slice 66)) (some (AV.slice iA 0 n n op)) (some (Zn (bD+1)))=some (AV.ptr iA (0+(bD+1)*3)):=cA (size:=3) k! (show (bD+1)<n by omega)
   have ld7:bk env hh 3 (AV.ptr iA ((0+(bD+1)*3)+0))=some (Zi (aN.g (bD+1)).time):=iD (i:=(bD+1)) (j:=0) om rfl jb k! rfl
   have ND:cK env (some (.slice 66)) (some (AV.slice iA 0 n n op)) (some (Zn bD))=some (AV.ptr iA (0+bD*3)):=cA (size:=3) k! (show bD<n by omega)
   have WN:bk env hh 3 (AV.ptr iA ((0+bD*3)+0))=some (Zi (aN.g bD).time):=iD (i:=bD) (j:=0) om rfl jb k! rfl
   obtain ⟨mA,E_,fZ,TG,yi,fq⟩:=fY aQ (aX.cells [(Zi 0),(Zi 0)] 23 false)
   have ik:Has h mA:=aW.trans fq
   have C1:Has hh mA:=fq
   obtain ⟨qH,C2,tN,N5,kr,dv⟩:=rA (t:=23) (n:=2) (i:=hh.nx) (L:=[(Zi (aN.g (bD+1)).aw),(Zi (aN.g (bD+1)).ar)]) fZ yi k! rfl rfl (by simp only[AV.cells,List.all_cons,List.all_nil,Bool.and_true,Bool.and_self,eL,dw,eM,eN,cH,gZ,g_,hB,hD,hI,eO])
   have kQ:Has h qH:=Has.cS ik dv bS o!
   have TH:Has hh qH:=Has.cS C1 dv aQ o!
   have Px:AV.same 20 (AV.agg [(Zi (aN.g (bD+1)).aw),(Zi (aN.g (bD+1)).ar)]) (AV.agg [(Zi (aN.g (bD+1)).aw),(Zi (aN.g (bD+1)).ar)])=true:=dM 18 (iC (fun n=>aJ n _ _) (iC (fun n=>aJ n _ _) DC))
   have G9:cK env (some (.slice 66)) (some (AV.slice iA 0 n n op)) (some (Zn bD))=some (AV.ptr iA (0+bD*3)):=cA (size:=3) k! (show bD<n by omega)
   have xH:bk env qH 23 (AV.ptr iA ((0+bD*3)+1))=some (AV.agg [(Zi (aN.g bD).aw),(Zi (aN.g bD).ar)]):=ny (i:=bD) (j:=1) (n:=2) (dv _ _ o! (fq _ _ om)) rfl jb k! k! (by decide) rfl
   have Kv:=CY (d:=d+6) (⟨(aN.g bD).aw,(aN.g bD).ar⟩:Span) (⟨(IntKind.i64.wrap ((aN.g (bD+1)).aw -(IntKind.i64.wrap (q.aH*(IntKind.i64.wrap ((aN.g (bD+1)).time -((aN.g bD).time))))))),(IntKind.i64.wrap (((aN.g (bD+1)).ar)+(IntKind.i64.wrap (q.aI*(IntKind.i64.wrap ((aN.g (bD+1)).time -((aN.g bD).time)))))))⟩:Span) trivial trivial tN
   have Md:cK env (some (.slice 66)) (some (AV.slice iA 0 n n op)) (some (Zn bD))=some (AV.ptr iA (0+bD*3)):=cA (size:=3) k! (show bD<n by omega)
   obtain ⟨N6,Me,N7,adN,C3,C4⟩:=ya (i:=bD) (j:=1) (t:=23) (n:=2) (v:=(AV.agg [(Zi (bw (⟨(aN.g bD).aw,(aN.g bD).ar⟩:Span) (⟨(IntKind.i64.wrap ((aN.g (bD+1)).aw -(IntKind.i64.wrap (q.aH*(IntKind.i64.wrap ((aN.g (bD+1)).time -((aN.g bD).time))))))),(IntKind.i64.wrap (((aN.g (bD+1)).ar)+(IntKind.i64.wrap (q.aI*(IntKind.i64.wrap ((aN.g (bD+1)).time -((aN.g bD).time)))))))⟩:Span)).ay),(Zi (bw (⟨(aN.g bD).aw,(aN.g bD).ar⟩:Span) (⟨(IntKind.i64.wrap ((aN.g (bD+1)).aw -(IntKind.i64.wrap (q.aH*(IntKind.i64.wrap ((aN.g (bD+1)).time -((aN.g bD).time))))))),(IntKind.i64.wrap (((aN.g (bD+1)).ar)+(IntKind.i64.wrap (q.aI*(IntKind.i64.wrap ((aN.g (bD+1)).time -((aN.g bD).time)))))))⟩:Span)).aq)])) (x:=(⟨(aN.g bD).time,(bw (⟨(aN.g bD).aw,(aN.g bD).ar⟩:Span) (⟨(IntKind.i64.wrap ((aN.g (bD+1)).aw -(IntKind.i64.wrap (q.aH*(IntKind.i64.wrap ((aN.g (bD+1)).time -((aN.g bD).time))))))),(IntKind.i64.wrap (((aN.g (bD+1)).ar)+(IntKind.i64.wrap (q.aI*(IntKind.i64.wrap ((aN.g (bD+1)).time -((aN.g bD).time)))))))⟩:Span)).ay,(bw (⟨(aN.g bD).aw,(aN.g bD).ar⟩:Span) (⟨(IntKind.i64.wrap ((aN.g (bD+1)).aw -(IntKind.i64.wrap (q.aH*(IntKind.i64.wrap ((aN.g (bD+1)).time -((aN.g bD).time))))))),(IntKind.i64.wrap (((aN.g (bD+1)).ar)+(IntKind.i64.wrap (q.aI*(IntKind.i64.wrap ((aN.g (bD+1)).time -((aN.g bD).time)))))))⟩:Span)).aq⟩:Gate)) tN (dv _ _ o! (fq _ _ om)) rfl jb k! rfl (by decide) (by simp [AV.cells,AV.scalar]) rfl
   have TI:fE env qH 23 (AV.ptr iA ((0+bD*3)+1)) (AV.agg [(Zi (bw (⟨(aN.g bD).aw,(aN.g bD).ar⟩:Span) (⟨(IntKind.i64.wrap ((aN.g (bD+1)).aw -(IntKind.i64.wrap (q.aH*(IntKind.i64.wrap ((aN.g (bD+1)).time -((aN.g bD).time))))))),(IntKind.i64.wrap (((aN.g (bD+1)).ar)+(IntKind.i64.wrap (q.aI*(IntKind.i64.wrap ((aN.g (bD+1)).time -((aN.g bD).time)))))))⟩:Span)).ay),(Zi (bw (⟨(aN.g bD).aw,(aN.g bD).ar⟩:Span) (⟨(IntKind.i64.wrap ((aN.g (bD+1)).aw -(IntKind.i64.wrap (q.aH*(IntKind.i64.wrap ((aN.g (bD+1)).time -((aN.g bD).time))))))),(IntKind.i64.wrap (((aN.g (bD+1)).ar)+(IntKind.i64.wrap (q.aI*(IntKind.i64.wrap ((aN.g (bD+1)).time -((aN.g bD).time)))))))⟩:Span)).aq)])=some N6:=Me
   have N8:Has h N6:=Has.mh kQ C4 W7
   have c18:AV.same 20 (AV.agg [(Zi (aN.g bD).aw),(Zi (aN.g bD).ar)]) (AV.agg [(Zi (aN.g bD).aw),(Zi (aN.g bD).ar)])=true:=dM 18 (iC (fun n=>aJ n _ _) (iC (fun n=>aJ n _ _) DC))
   have w19:IntKind.i64.wrap (((bD:Nat):Int) - 1)=((bD:Nat):Int) - 1:=wrap_i64 o! o!
   exact e_.round (by simp only[jy,ak,aj]) (pk (d+7) _ _ hh _ N6 (CC<|VV (oe 3 false true .i64 ((bD:Nat):Int) 0)<|BB q1<|CN 2<|VV u2<|VV tb<|CC<|MM ld4<|CN 2<|VV u5<|VV Po<|CC<|MM ld7<|CN 2<|VV ND<|CC<|MM WN<|CC<|NN E_ (fun i=>(Pt i))<|SS C2<|CC<|HH (show bk env mA 23 (AV.ptr iA ((0+(bD+1)*3)+1))=some (AV.agg [(Zi (aN.g (bD+1)).aw),(Zi (aN.g (bD+1)).ar)]) from (ny (i:=(bD+1)) (j:=1) (n:=2) (fq _ _ om) rfl jb k! k! (by decide) rfl))<|HH Px<|HH (show bk env mA 3 (AV.ptr iA ((0+(bD+1)*3)+0))=some (Zi (aN.g (bD+1)).time) from (iD (i:=(bD+1)) (j:=0) (fq _ _ om) rfl jb k! rfl))<|HH (show AV.same 20 (Zi (aN.g (bD+1)).time) (Zi (aN.g (bD+1)).time)=true from aJ 19 _ _)<|HH (show bk env qH 3 (AV.ptr iA ((0+(bD+1)*3)+0))=some (Zi (aN.g (bD+1)).time) from (iD (i:=(bD+1)) (j:=0) (dv _ _ o! (fq _ _ om)) rfl jb k! rfl))<|HH (show AV.same 20 (Zi (aN.g (bD+1)).time) (Zi (aN.g (bD+1)).time)=true from aJ 19 _ _)<|HH (show bk env mA 3 (AV.ptr iA ((0+bD*3)+0))=some (Zi (aN.g bD).time) from (iD (i:=bD) (j:=0) (fq _ _ om) rfl jb k! rfl))<|HH (show AV.same 20 (Zi (aN.g bD).time) (Zi (aN.g bD).time)=true from aJ 19 _ _)<|HH (show bk env qH 3 (AV.ptr iA ((0+bD*3)+0))=some (Zi (aN.g bD).time) from (iD (i:=bD) (j:=0) (dv _ _ o! (fq _ _ om)) rfl jb k! rfl))<|HH (show AV.same 20 (Zi (aN.g bD).time) (Zi (aN.g bD).time)=true from aJ 19 _ _)<|HH (show ∃o,mA.get hh.nx=some o∧aX.same o (aX.cells [(Zi 0),(Zi 0)] 23 false)=true from ⟨_,yi,by simp [aX.same,da,AV.same]⟩)<|CN 4<|VV G9<|CC<|MM xH<|CC<|MM (aO 3 0 (Zi (aN.g (bD+1)).aw) kr k!)<|CC<|MM (aO 3 3 (Zi q.aH) (dv _ _ o! (fq _ _ dP)) k!)<|CN 4<|MM (aO 3 1 (Zi (aN.g (bD+1)).ar) kr k!)<|CC<|MM (aO 3 4 (Zi q.aI) (dv _ _ o! (fq _ _ dP)) k!)<|CN 4<|EE Kv<|VV Md<|CC<|SS TI<|HH (show bk env qH 23 (AV.ptr iA ((0+bD*3)+1))=some (AV.agg [(Zi (aN.g bD).aw),(Zi (aN.g bD).ar)]) from (ny (i:=bD) (j:=1) (n:=2) (dv _ _ o! (fq _ _ om)) rfl jb k! k! (by decide) rfl))<|HH c18<|HH (aO 3 0 (Zi (aN.g (bD+1)).aw) kr k!)<|HH (show AV.same 20 (Zi (aN.g (bD+1)).aw) (Zi (aN.g (bD+1)).aw)=true from aJ 19 _ _)<|HH (aO 3 3 (Zi q.aH) (dv _ _ o! (fq _ _ dP)) k!)<|HH (show AV.same 20 (Zi q.aH) (Zi q.aH)=true from aJ 19 _ _)<|HH (aO 3 1 (Zi (aN.g (bD+1)).ar) kr k!)<|HH (show AV.same 20 (Zi (aN.g (bD+1)).ar) (Zi (aN.g (bD+1)).ar)=true from aJ 19 _ _)<|HH (aO 3 4 (Zi q.aI) (dv _ _ o! (fq _ _ dP)) k!)<|HH (show AV.same 20 (Zi q.aI) (Zi q.aI)=true from aJ 19 _ _)<|CC<|VV (OX 3 false true w19)<|CC<|ZZ) k!) o! _ k! (fun x=>N9 n op q dz iA iv oX AG bS D2 W7 Mf bD (i1+1) (aN.set bD (⟨(aN.g bD).time,(bw (⟨(aN.g bD).aw,(aN.g bD).ar⟩:Span) (⟨(IntKind.i64.wrap ((aN.g (bD+1)).aw -(IntKind.i64.wrap (q.aH*(IntKind.i64.wrap ((aN.g (bD+1)).time -((aN.g bD).time))))))),(IntKind.i64.wrap (((aN.g (bD+1)).ar)+(IntKind.i64.wrap (q.aI*(IntKind.i64.wrap ((aN.g (bD+1)).time -((aN.g bD).time)))))))⟩:Span)).ay,(bw (⟨(aN.g bD).aw,(aN.g bD).ar⟩:Span) (⟨(IntKind.i64.wrap ((aN.g (bD+1)).aw -(IntKind.i64.wrap (q.aH*(IntKind.i64.wrap ((aN.g (bD+1)).time -((aN.g bD).time))))))),(IntKind.i64.wrap (((aN.g (bD+1)).ar)+(IntKind.i64.wrap (q.aI*(IntKind.i64.wrap ((aN.g (bD+1)).time -((aN.g bD).time)))))))⟩:Span)).aq⟩:Gate)) (((bD:Nat):Int) - 1) o! o! (show (List.length (aN.set bD (⟨(aN.g bD).time,(bw (⟨(aN.g bD).aw,(aN.g bD).ar⟩:Span) (⟨(IntKind.i64.wrap ((aN.g (bD+1)).aw -(IntKind.i64.wrap (q.aH*(IntKind.i64.wrap ((aN.g (bD+1)).time -((aN.g bD).time))))))),(IntKind.i64.wrap (((aN.g (bD+1)).ar)+(IntKind.i64.wrap (q.aI*(IntKind.i64.wrap ((aN.g (bD+1)).time -((aN.g bD).time)))))))⟩:Span)).ay,(bw (⟨(aN.g bD).aw,(aN.g bD).ar⟩:Span) (⟨(IntKind.i64.wrap ((aN.g (bD+1)).aw -(IntKind.i64.wrap (q.aH*(IntKind.i64.wrap ((aN.g (bD+1)).time -((aN.g bD).time))))))),(IntKind.i64.wrap (((aN.g (bD+1)).ar)+(IntKind.i64.wrap (q.aI*(IntKind.i64.wrap ((aN.g (bD+1)).time -((aN.g bD).time)))))))⟩:Span)).aq⟩:Gate))=n∧n≤20) from CZ) x N6 N7 N8 o! (C4 _ _ o! (dv _ _ o! (fq _ _ dP))) C3)
theorem adO {d:Nat} {g hh:aA} {p n:Nat} {op:Bool} {L:List Gate} (q:aD) (hqg:aF.ok g q) (agh:Has g hh) (gnp:g.get p=none) (aQ:Tidy hh) (gp:hh.get p=some (.cells (List.flatMap (aF.c (α:=Gate)) L) 66 false)) (hn:L.length=n) (K6:n≤20) (W5:1≤n):
 ∃hk v,cz (d+8) (.fn 47) [.agg (aF.c q),.slice p 0 n n op] hh= .ret v hk∧Tidy hk∧hh.nx≤hk.nx∧Kept p hh hk∧(iV q n (n - 1) 1 (eI n (n - 1) 1 L)=none→v= .aP)∧∀w,iV q n (n - 1) 1 (eI n (n - 1) 1 L)=some w→v= .slice p 0 n n op∧hk.get p=some (.cells (List.flatMap (aF.c (α:=Gate)) (jy q (n - 1) 0 w)) 66 false):=by
 obtain ⟨h,bS,aW,hp,gQ,kp,lft⟩:=mi aQ gp
 have hq:aF.ok h q:=aF.mono (lft g agh gnp) hqg
 have sq:=hq.2.small
 have T_p:=aQ _ _ gp
 have il:(eI n (n - 1) 1 L).length=n:=(N4 _ _ _).trans hn
 rcases Qf:(iV q n (n - 1) 1 (eI n (n - 1) 1 L)) with _ | w0
 · skip
   obtain ⟨h1,cj,cg,iu,bf,cf⟩:=fY aQ (aX.cells [(AV.str q.name),(Zi q.ai),(Zi q.af),(Zi q.aH),(Zi q.aI),(Zi q.bad),q.az] 26 false)
   have bA:Has h h1:=aW.trans cf
   have W8:Has hh h1:=cf
   obtain ⟨h2,TF,eQ,zn,cO,vk⟩:=YA (d:=d) (n:=n) (op:=op) cg (cf _ _ gp) hn K6 W5
   have dZ:Has h h2:=Has.mh bA vk hp
   have FW0:=Hu (d:=d) (h:=h) n op q hh.nx p hq.1 hq.2 hq bS o! hp o! (n - 1) 1 (eI n (n - 1) 1 L) o! (show (List.length (eI n (n - 1) 1 L)=n∧n≤20∧1≤1) from CZ) (fun k_=>(((AV.agg [(AV.str q.name),(Zi q.ai),(Zi q.af),(Zi q.aH),(Zi q.aI),(Zi q.bad),q.az])::(AV.slice p 0 n n op)::(Pt hh.nx)::AV.undef::AV.aP::(AV.slice p 0 n n op)::(Zi 1)::AV.undef::AV.undef::AV.undef::AV.undef::AV.undef::(AV.slice p 0 n n op)::(AV.slice p 0 n n op)::(AV.tuple [])::iL 113):List AV).getD k_ AV.undef) h2 eQ dZ o! (vk _ _ o! bf) cO
   rw[Qf] at FW0
   obtain ⟨yr4,h3,aaT,fA,qw,tp⟩:=FW0
   have fl:Has h h3:=tp
   have ev:=pk (d+7) yh ((AV.agg [(AV.str q.name),(Zi q.ai),(Zi q.af),(Zi q.aH),(Zi q.aI),(Zi q.bad),q.az])::(AV.slice p 0 n n op)::iL 126) hh .ret h3 (NN cj (fun i=>(Pt i))<|CN 4<|EE TF<|CC<|LL aaT<|ZZ) k!
   obtain ⟨hk,e,q⟩:=ib rfl (ba (v:= .aP) Try.func47 adM k! (.inr rfl) ev k!)
   refine ⟨hk,.aP,e,?_⟩
   rcases q with rfl | ⟨rfl,A⟩
   · exact ⟨fA,by omega,kp _ tp,fun _=>rfl,fun w e=>(by cases e)⟩
   · exact ⟨aQ,Nat.le_refl _,fun _ _ _ q=>q,fun _=>rfl,fun w e=>(by cases e)⟩
 · skip
   obtain ⟨h1,cj,cg,iu,bf,cf⟩:=fY aQ (aX.cells [(AV.str q.name),(Zi q.ai),(Zi q.af),(Zi q.aH),(Zi q.aI),(Zi q.bad),q.az] 26 false)
   have bA:Has h h1:=aW.trans cf
   have W8:Has hh h1:=cf
   obtain ⟨h2,TF,eQ,zn,cO,vk⟩:=YA (d:=d) (n:=n) (op:=op) cg (cf _ _ gp) hn K6 W5
   have dZ:Has h h2:=Has.mh bA vk hp
   have FW0:=Hu (d:=d) (h:=h) n op q hh.nx p hq.1 hq.2 hq bS o! hp o! (n - 1) 1 (eI n (n - 1) 1 L) o! (show (List.length (eI n (n - 1) 1 L)=n∧n≤20∧1≤1) from CZ) (fun k_=>(((AV.agg [(AV.str q.name),(Zi q.ai),(Zi q.af),(Zi q.aH),(Zi q.aI),(Zi q.bad),q.az])::(AV.slice p 0 n n op)::(Pt hh.nx)::AV.undef::AV.aP::(AV.slice p 0 n n op)::(Zi 1)::AV.undef::AV.undef::AV.undef::AV.undef::AV.undef::(AV.slice p 0 n n op)::(AV.slice p 0 n n op)::(AV.tuple [])::iL 113):List AV).getD k_ AV.undef) h2 eQ dZ o! (vk _ _ o! bf) cO
   rw[Qf] at FW0
   obtain ⟨_,SJ,h4,rE,oh,Pw,adP,aaU,aaV,aeW⟩:=FW0
   have nO:Has h h4:=adP
   have w5:IntKind.i64.wrap (((n:Nat):Int) - 2)=((n:Nat):Int) - 2:=wrap_i64 o! o!
   obtain ⟨_,yl6,h7,Cj,mM,Z7,YD,agk,Mg,NA⟩:=N9 (d:=d) (h:=h) n op q hh.nx p hq.1 hq.2 hq bS o! hp o! (n - 1) 0 w0 (((n:Nat):Int) - 2) o! o! (show (List.length w0=n∧n≤20) from CZ) (fun k_=>(((SJ 0)::(SJ 1)::(Pt hh.nx)::(SJ 3)::(SJ 4)::(AV.slice p 0 n n op)::rx SJ 6 3 ((Zi (((n:Nat):Int) - 2))::rx SJ 10 67 ((AV.slice p 0 n n op)::(Zn n)::(Zi (((n:Nat):Int) - 2))::rx SJ 80 48 []))):List AV).getD k_ AV.undef) h4 oh nO o! aaU aaV
   have lL:Has h h7:=YD
   have ev:=pk (d+7) yh ((AV.agg [(AV.str q.name),(Zi q.ai),(Zi q.af),(Zi q.aH),(Zi q.aI),(Zi q.bad),q.az])::(AV.slice p 0 n n op)::iL 126) hh .ret h7 (NN cj (fun i=>(Pt i))<|CN 4<|EE TF<|CC<|LL rE<|CN 2<|VV (OX 3 false true w5)<|CC<|LL Cj<|CN 2<|ZZ) k!
   obtain ⟨hk,e,q⟩:=ib rfl (ba (v:= .slice p 0 n n op) Try.func47 adM k! (.inr rfl) ev k!)
   refine ⟨hk,.slice p 0 n n op,e,?_⟩
   rcases q with rfl | ⟨rfl,A⟩
   · exact ⟨mM,by omega,kp _ YD,(fun e=>(by cases e)),fun w e=>(by cases e;exact ⟨rfl,Mg⟩)⟩
   · refine ⟨aQ,Nat.le_refl _,fun _ _ _ q=>q,(fun e=>(by cases e)),fun w e=>?_⟩
     cases e
     rw[A _ _ gp] at Mg
     exact ⟨rfl,by rw[gp];exact Mg⟩
def kn (g:Gate):bC:=⟨g.time,g.aw,g.ar⟩
def Open (g:Gate):Prop:=g.aw= -9223372036854775808∧g.ar=9223372036854775807
def DD (q:aD) (a b:Gate):Gate:=⟨b.time,(bw (⟨b.aw,b.ar⟩:Span) (⟨(IntKind.i64.wrap (a.aw -(IntKind.i64.wrap (q.aI*(IntKind.i64.wrap (b.time - a.time)))))),(IntKind.i64.wrap (a.ar+(IntKind.i64.wrap (q.aH*(IntKind.i64.wrap (b.time - a.time))))))⟩:Span)).ay,(bw (⟨b.aw,b.ar⟩:Span) (⟨(IntKind.i64.wrap (a.aw -(IntKind.i64.wrap (q.aI*(IntKind.i64.wrap (b.time - a.time)))))),(IntKind.i64.wrap (a.ar+(IntKind.i64.wrap (q.aH*(IntKind.i64.wrap (b.time - a.time))))))⟩:Span)).aq⟩
def W9 (q:aD) (a b:Gate):Gate:=⟨a.time,(bw (⟨a.aw,a.ar⟩:Span) (⟨(IntKind.i64.wrap (b.aw -(IntKind.i64.wrap (q.aH*(IntKind.i64.wrap (b.time - a.time)))))),(IntKind.i64.wrap (b.ar+(IntKind.i64.wrap (q.aI*(IntKind.i64.wrap (b.time - a.time))))))⟩:Span)).ay,(bw (⟨a.aw,a.ar⟩:Span) (⟨(IntKind.i64.wrap (b.aw -(IntKind.i64.wrap (q.aH*(IntKind.i64.wrap (b.time - a.time)))))),(IntKind.i64.wrap (b.ar+(IntKind.i64.wrap (q.aI*(IntKind.i64.wrap (b.time - a.time))))))⟩:Span)).aq⟩
theorem wj (q:aD) (n k i:Nat) (C:List Gate):iV q n (k+1) i C=bif decide (((C.set i (DD q (C.g (i - 1)) (C.g i))).g i).ar<((C.set i (DD q (C.g (i - 1)) (C.g i))).g i).aw) then none else iV q n k (i+1) (C.set i (DD q (C.g (i - 1)) (C.g i))):=by rw[iV];rfl
theorem C5 (q:aD) (k i:Nat) (C:List Gate):jy q (k+1) i C=jy q k (i+1) (C.set k (W9 q (C.g k) (C.g (k+1)))):=by rw[jy];rfl
theorem jz {α:Type} [Inhabited α] {C:List α} {i:Nat} (x:α) (h:i<C.length):(C.set i x).g i=x:=by
 rw[List.g,List.getD_eq_getElem?_getD,List.getElem?_set_self h];rfl
theorem j6 {α:Type} [Inhabited α] {C:List α} {i j:Nat} (x:α) (h:i≠j):(C.set i x).g j=C.g j:=by
 rw[List.g,List.g,List.getD_eq_getElem?_getD,List.getD_eq_getElem?_getD,List.getElem?_set_ne h]
structure D4 (f r:Int) (S:List Gate) (D:Nat→Prop) (g:Gate):Prop where
 ay:∃k,D k∧KB (kn (S.g k))∧g.aw=(eY f r (kn (S.g k)) g.time).ay
 aq:∃k,D k∧KB (kn (S.g k))∧g.ar=(eY f r (kn (S.g k)) g.time).aq
 all:∀k,D k→KB (kn (S.g k))→(eY f r (kn (S.g k)) g.time).ay≤g.aw∧g.ar≤(eY f r (kn (S.g k)) g.time).aq
structure J1 (S:List Gate):Prop where
 time:∀k,k<S.length→0≤(S.g k).time∧(S.g k).time≤100000
 order:∀j k,j≤k→k<S.length→(S.g j).time≤(S.g k).time
 each:∀k,k<S.length→KB (kn (S.g k))∨Open (S.g k)
 first:KB (kn (S.g 0))
 wide:∀k,k<S.length→(S.g k).aw≤(S.g k).ar
section
variable {q:aD} (f0:0≤q.aI) (f1:q.aI≤10000) (r0:0≤q.aH) (r1:q.aH≤10000) {S:List Gate} (gs:J1 S)
include f0 f1 r0 r1
theorem E' {k:bC} {t:Int} (hk:KB k) (t0:0≤t) (t1:t≤100000): -1001000000000≤(eY q.aI q.aH k t).ay∧(eY q.aI q.aH k t).ay≤1001000000000∧-1001000000000≤(eY q.aI q.aH k t).aq∧(eY q.aI q.aH k t).aq≤1001000000000:=by
 obtain ⟨⟨a,b⟩,c,d,e,g⟩:=hk
 rw[eY]
 split
 · obtain ⟨m1,m2⟩:=iP f0 f1 (x:=t - k.time) o! o!
   obtain ⟨m3,m4⟩:=iP r0 r1 (x:=t - k.time) o! o!
   exact ⟨by simp only;omega,by simp only;omega,by simp only;omega,by simp only;omega⟩
 · obtain ⟨m1,m2⟩:=iP f0 f1 (x:=k.time - t) o! o!
   obtain ⟨m3,m4⟩:=iP r0 r1 (x:=k.time - t) o! o!
   exact ⟨by simp only;omega,by simp only;omega,by simp only;omega,by simp only;omega⟩
include gs
theorem W_ {i:Nat} (hi:i+1<S.length) {a:Gate} (ht:a.time=(S.g i).time) (ha:D4 q.aI q.aH S (· ≤i) a):D4 q.aI q.aH S (· ≤i+1) (DD q a (S.g (i+1)))∧(DD q a (S.g (i+1))).time=(S.g (i+1)).time:=by
 have T0:=gs.time i o!;have T1:=gs.time (i+1) hi;have T2:=gs.order i (i+1) o! hi
 obtain ⟨c,c1,c2,c3⟩:=ha.ay
 obtain ⟨e,e1,e2,e3⟩:=ha.aq
 have bc:=E' f0 f1 r0 r1 c2 (t:=a.time) o! o!
 have be:=E' f0 f1 r0 r1 e2 (t:=a.time) o! o!
 obtain ⟨m1,m2⟩:=iP f0 f1 (x:=(S.g (i+1)).time - a.time) o! o!
 obtain ⟨m3,m4⟩:=iP r0 r1 (x:=(S.g (i+1)).time - a.time) o! o!
 have J2:(DD q a (S.g (i+1))).aw=max (S.g (i+1)).aw (a.aw - q.aI*((S.g (i+1)).time - a.time)):=by
  simp only[DD,bw,rI]
  rw[wrap_i64 (n:=(S.g (i+1)).time - a.time) o! o!,wrap_i64 (n:=q.aI*((S.g (i+1)).time - a.time)) o! o!,wrap_i64 (n:=a.aw - q.aI*((S.g (i+1)).time - a.time)) o! o!]
 have Ak:(DD q a (S.g (i+1))).ar=min (S.g (i+1)).ar (a.ar+q.aH*((S.g (i+1)).time - a.time)):=by
  simp only[DD,bw,ux]
  rw[wrap_i64 (n:=(S.g (i+1)).time - a.time) o! o!,wrap_i64 (n:=q.aH*((S.g (i+1)).time - a.time)) o! o!,wrap_i64 (n:=a.ar+q.aH*((S.g (i+1)).time - a.time)) o! o!]
 have yj:(DD q a (S.g (i+1))).time=(S.g (i+1)).time:=rfl
 have late:∀k,k≤i→(eY q.aI q.aH (kn (S.g k)) (S.g (i+1)).time).ay=(eY q.aI q.aH (kn (S.g k)) a.time).ay - q.aI*((S.g (i+1)).time - a.time)∧(eY q.aI q.aH (kn (S.g k)) (S.g (i+1)).time).aq=(eY q.aI q.aH (kn (S.g k)) a.time).aq+q.aH*((S.g (i+1)).time - a.time):=fun k hk=>by
  have o1:=gs.order k i hk o!
  have h1:(kn (S.g k)).time≤a.time:=by show (S.g k).time≤a.time;omega
  have h2:(kn (S.g k)).time≤(S.g (i+1)).time:=by omega
  unfold eY
  rw[if_pos h1,if_pos h2]
  simp only[Int.mul_sub]
  omega
 have own:(eY q.aI q.aH (kn (S.g (i+1))) (S.g (i+1)).time).ay=(S.g (i+1)).aw∧(eY q.aI q.aH (kn (S.g (i+1))) (S.g (i+1)).time).aq=(S.g (i+1)).ar:=by
  unfold eY
  rw[if_pos (show (kn (S.g (i+1))).time≤(S.g (i+1)).time from Int.le_refl _)]
  simp only[kn,Int.sub_self,Int.mul_zero,Int.sub_zero,Int.add_zero,and_self]
 refine ⟨⟨?_,?_,?_⟩,yj⟩
 · rw[J2,yj]
   by_cases w:(S.g (i+1)).aw≤a.aw - q.aI*((S.g (i+1)).time - a.time)
   · exact ⟨c,by omega,c2,by rw[(late c c1).1];omega⟩
   · rcases gs.each (i+1) hi with kb | op
     · exact ⟨i+1,Nat.le_refl _,kb,by rw[own.1];omega⟩
     · have:=op.1;omega
 · rw[Ak,yj]
   by_cases w:a.ar+q.aH*((S.g (i+1)).time - a.time)≤(S.g (i+1)).ar
   · exact ⟨e,by omega,e2,by rw[(late e e1).2];omega⟩
   · rcases gs.each (i+1) hi with kb | op
     · exact ⟨i+1,Nat.le_refl _,kb,by rw[own.2];omega⟩
     · have:=op.2;omega
 · intro k hk kb
   rw[J2,Ak,yj]
   rcases Nat.lt_or_eq_of_le hk with h | h
   · have:=late k o!;have:=ha.all k o! kb;omega
   · subst h;have:=own;omega
theorem Xa {i:Nat} (hi:i+1<S.length) {a b:Gate} (ht:a.time=(S.g i).time) (hu:b.time=(S.g (i+1)).time) (ha:D4 q.aI q.aH S (· ≤i) a) (hb:D4 q.aI q.aH S (· <S.length) b):D4 q.aI q.aH S (· <S.length) (W9 q a b)∧(W9 q a b).time=(S.g i).time:=by
 have T0:=gs.time i o!;have T1:=gs.time (i+1) hi;have T2:=gs.order i (i+1) o! hi
 obtain ⟨c,c1,c2,c3⟩:=ha.ay
 obtain ⟨e,e1,e2,e3⟩:=ha.aq
 obtain ⟨c',c1',c2',c3'⟩:=hb.ay
 obtain ⟨e',e1',e2',e3'⟩:=hb.aq
 have bc:=E' f0 f1 r0 r1 c2 (t:=a.time) o! o!
 have be:=E' f0 f1 r0 r1 e2 (t:=a.time) o! o!
 have bc':=E' f0 f1 r0 r1 c2' (t:=b.time) o! o!
 have be':=E' f0 f1 r0 r1 e2' (t:=b.time) o! o!
 obtain ⟨m1,m2⟩:=iP f0 f1 (x:=b.time - a.time) o! o!
 obtain ⟨m3,m4⟩:=iP r0 r1 (x:=b.time - a.time) o! o!
 have J2:(W9 q a b).aw=max a.aw (b.aw - q.aH*(b.time - a.time)):=by
  simp only[W9,bw,rI]
  rw[wrap_i64 (n:=b.time - a.time) o! o!,wrap_i64 (n:=q.aH*(b.time - a.time)) o! o!,wrap_i64 (n:=b.aw - q.aH*(b.time - a.time)) o! o!]
 have Ak:(W9 q a b).ar=min a.ar (b.ar+q.aI*(b.time - a.time)):=by
  simp only[W9,bw,ux]
  rw[wrap_i64 (n:=b.time - a.time) o! o!,wrap_i64 (n:=q.aI*(b.time - a.time)) o! o!,wrap_i64 (n:=b.ar+q.aI*(b.time - a.time)) o! o!]
 have yj:(W9 q a b).time=a.time:=rfl
 have back:∀k,i<k→k<S.length→(eY q.aI q.aH (kn (S.g k)) a.time).ay=(eY q.aI q.aH (kn (S.g k)) b.time).ay - q.aH*(b.time - a.time)∧(eY q.aI q.aH (kn (S.g k)) a.time).aq=(eY q.aI q.aH (kn (S.g k)) b.time).aq+q.aI*(b.time - a.time):=fun k h1 h2=>by
  have o1:=gs.order (i+1) k o! h2
  have e1:b.time≤(kn (S.g k)).time:=by show b.time≤(S.g k).time;omega
  unfold eY
  by_cases w1:(kn (S.g k)).time≤a.time
  · have w2:(kn (S.g k)).time≤b.time:=by omega
    have w3:b.time=a.time:=by omega
    rw[if_pos w1,if_pos w2,w3]
    simp only[Int.sub_self,Int.mul_zero,Int.sub_zero,Int.add_zero,and_self]
  · rw[if_neg w1]
    by_cases w2:(kn (S.g k)).time≤b.time
    · have w3:(kn (S.g k)).time=b.time:=by omega
      rw[if_pos w2,w3]
      simp only[Int.sub_self,Int.mul_zero,Int.sub_zero,Int.add_zero,and_self]
    · rw[if_neg w2]
      simp only[Int.mul_sub]
      omega
 have aaW:∀k,k≤i→(eY q.aI q.aH (kn (S.g k)) b.time).ay=(eY q.aI q.aH (kn (S.g k)) a.time).ay - q.aI*(b.time - a.time)∧(eY q.aI q.aH (kn (S.g k)) b.time).aq=(eY q.aI q.aH (kn (S.g k)) a.time).aq+q.aH*(b.time - a.time):=fun k hk=>by
  have o1:=gs.order k i hk o!
  have h1:(kn (S.g k)).time≤a.time:=by show (S.g k).time≤a.time;omega
  have h2:(kn (S.g k)).time≤b.time:=by omega
  unfold eY
  rw[if_pos h1,if_pos h2]
  simp only[Int.mul_sub]
  omega
 refine ⟨⟨?_,?_,?_⟩,by rw[yj];exact ht⟩
 · rw[J2,yj]
   by_cases w:b.aw - q.aH*(b.time - a.time)≤a.aw
   · exact ⟨c,by omega,c2,by omega⟩
   · by_cases w2:c'≤i
     · have:=aaW c' w2;have:=ha.all c' w2 c2';omega
     · exact ⟨c',c1',c2',by rw[(back c' o! c1').1];omega⟩
 · rw[Ak,yj]
   by_cases w:a.ar≤b.ar+q.aI*(b.time - a.time)
   · exact ⟨e,by omega,e2,by omega⟩
   · by_cases w2:e'≤i
     · have:=aaW e' w2;have:=ha.all e' w2 e2';omega
     · exact ⟨e',e1',e2',by rw[(back e' o! e1').2];omega⟩
 · intro k hk kb
   rw[J2,Ak,yj]
   by_cases w:k≤i
   · have:=ha.all k w kb;have:=aaW k w;have:=hb.all k hk kb;omega
   · have:=back k o! hk;have:=hb.all k hk kb
     have:=ha.ay;have:=ha.aq
     omega
end
section
variable {q:aD} (f0:0≤q.aI) (f1:q.aI≤10000) (r0:0≤q.aH) (r1:q.aH≤10000) {S:List Gate} (gs:J1 S)
structure Fw (q:aD) (S C:List Gate) (i:Nat):Prop where
 len:C.length=S.length
 done:∀j,j<i→j<S.length→(C.g j).time=(S.g j).time∧D4 q.aI q.aH S (· ≤j) (C.g j)∧(C.g j).aw≤(C.g j).ar
 rest:∀j,i≤j→C.g j=S.g j
include f0 f1 r0 r1 gs
omit f0 f1 r0 r1 in
theorem TJ:D4 q.aI q.aH S (· ≤0) (S.g 0):=by
 have own:(eY q.aI q.aH (kn (S.g 0)) (S.g 0).time).ay=(S.g 0).aw∧(eY q.aI q.aH (kn (S.g 0)) (S.g 0).time).aq=(S.g 0).ar:=by
  unfold eY
  rw[if_pos (show (kn (S.g 0)).time≤(S.g 0).time from Int.le_refl _)]
  simp only[kn,Int.sub_self,Int.mul_zero,Int.sub_zero,Int.add_zero,and_self]
 refine ⟨⟨0,Nat.le_refl _,gs.first,own.1.symm⟩,⟨0,Nat.le_refl _,gs.first,own.2.symm⟩,fun k hk kb=>?_⟩
 obtain rfl:k=0:=by omega
 omega
theorem N_ {n:Nat}:∀(k i:Nat) (C:List Gate),i+k=S.length→1≤i→Fw q S C i→
 (iV q n k i C=none→∃c e t,c<S.length∧e<S.length∧KB (kn (S.g c))∧KB (kn (S.g e))∧(eY q.aI q.aH (kn (S.g e)) t).aq<(eY q.aI q.aH (kn (S.g c)) t).ay)∧∀W,iV q n k i C=some W→Fw q S W S.length
 | 0,i,C,h,h1,fw=>by
   refine ⟨fun e=>(by rw[iV] at e;cases e),fun W e=>?_⟩
   rw[iV] at e;cases e
   rw[show S.length=i by omega];exact fw
 | k+1,i,C,h,h1,fw=>by
   obtain ⟨j,rfl⟩:∃j,i=j+1:=⟨i - 1,by omega⟩
   obtain ⟨d1,d2,d3⟩:=fw.done j o! o!
   have er:=fw.rest (j+1) (Nat.le_refl _)
   obtain ⟨s1,s2⟩:=W_ f0 f1 r0 r1 gs (i:=j) o! d1 d2
   have cl:=fw.len
   rw[wj,Nat.add_sub_cancel,er,jz _ o!]
   by_cases w:(DD q (C.g j) (S.g (j+1))).ar<(DD q (C.g j) (S.g (j+1))).aw
   · rw[decide_eq_true w]
     refine ⟨fun _=>?_,fun W e=>(by cases e)⟩
     obtain ⟨c,c1,c2,c3⟩:=s1.ay
     obtain ⟨e,e1,e2,e3⟩:=s1.aq
     exact ⟨c,e,_,by omega,by omega,c2,e2,by rw[←e3,←c3];exact w⟩
   · rw[decide_eq_false w,aj]
     refine N_ k (j+2) _ o! o! ⟨by rw[List.length_set];exact cl,fun m hm hm2=>?_,fun m hm=>?_⟩
     · by_cases e:m=j+1
       · subst e;rw[jz _ o!];exact ⟨s2,s1,by omega⟩
       · rw[j6 _ (Ne.symm e)];exact fw.done m o! hm2
     · rw[j6 _ o!];exact fw.rest m o!
theorem N':∀(k i:Nat) (C:List Gate),k<S.length→C.length=S.length→(∀j,j<k→(C.g j).time=(S.g j).time∧D4 q.aI q.aH S (· ≤j) (C.g j))→(∀j,k≤j→j<S.length→(C.g j).time=(S.g j).time∧D4 q.aI q.aH S (· <S.length) (C.g j))→
 (jy q k i C).length=S.length∧∀j,j<S.length→((jy q k i C).g j).time=(S.g j).time∧D4 q.aI q.aH S (· <S.length) ((jy q k i C).g j)
 | 0,i,C,hk,hl,h1,h2=>by rw[jy];exact ⟨hl,fun j hj=>h2 j (Nat.zero_le _) hj⟩
 | k+1,i,C,hk,hl,h1,h2=>by
   obtain ⟨a1,a2⟩:=h1 k o!
   obtain ⟨b1,b2⟩:=h2 (k+1) (Nat.le_refl _) hk
   obtain ⟨s1,s2⟩:=Xa f0 f1 r0 r1 gs hk a1 b1 a2 b2
   rw[C5]
   refine N' k (i+1) _ o! (by rw[List.length_set];exact hl) (fun j hj=>?_) (fun j hj U9=>?_)
   · rw[j6 _ o!];exact h1 j o!
   · by_cases e:j=k
     · subst e;rw[jz _ o!];exact ⟨s2,s1⟩
     · rw[j6 _ (Ne.symm e)];exact h2 j o! U9
def KG (S:List Gate) (c:bC):Prop:=∃k,k<S.length∧KB (kn (S.g k))∧c=kn (S.g k)
def tO (f r:Int) (K:bC→Prop):Prop:=∀i,K i→∀k,K k→max (eY f r i k.time).ay k.aw≤min (eY f r i k.time).aq k.ar
omit f0 f1 r0 r1 gs in
theorem J3 {f r:Int} {K:bC→Prop} {a b:bC} (h:tO f r K) (ha:K a) (hb:K b):nV f r [a,b]:=by
 intro i hi k hk
 have m:∀x∈ [a,b],K x:=fun x hx=>by
  rcases List.mem_cons.1 hx with rfl | hx
  · exact ha
  · rw[List.mem_singleton] at hx;subst hx;exact hb
 exact h i (m i hi) k (m k hk)
theorem Ff {n:Nat} (hn:n=S.length) (hn1:1≤n):
 (iV q n (n - 1) 1 S=none↔¬tO q.aI q.aH (KG S))∧∀W,iV q n (n - 1) 1 S=some W→(jy q (n - 1) 0 W).length=n∧∀j,j<n→((jy q (n - 1) 0 W).g j).time=(S.g j).time∧∀x,(((jy q (n - 1) 0 W).g j).aw≤x∧x≤((jy q (n - 1) 0 W).g j).ar)↔∀c,KG S c→(eY q.aI q.aH c (S.g j).time).ay≤x∧x≤(eY q.aI q.aH c (S.g j).time).aq:=by
 subst hn
 have fw1:Fw q S S 1:=⟨rfl,(fun j hj U9=>by
  obtain rfl:j=0:=by omega
  exact ⟨rfl,TJ gs,gs.wide 0 o!⟩),fun _ _=>rfl⟩
 obtain ⟨l1,l2⟩:=N_ f0 f1 r0 r1 gs (n:=S.length) (S.length - 1) 1 S o! (Nat.le_refl _) fw1
 have Mh:∀W,iV q S.length (S.length - 1) 1 S=some W→tO q.aI q.aH (KG S):=fun W e=>by
  have fw:=l2 W e
  have TL:∀i k,i≤k→k<S.length→KB (kn (S.g i))→KB (kn (S.g k))→(eY q.aI q.aH (kn (S.g i)) (S.g k).time).ay≤(S.g k).ar∧(S.g k).aw≤(eY q.aI q.aH (kn (S.g i)) (S.g k).time).aq:=fun i k kY hk ki kk=>by
   obtain ⟨t1,s1,w1⟩:=fw.done k hk hk
   have a:=s1.all i kY ki
   have b:=s1.all k (Nat.le_refl _) kk
   rw[t1] at a b
   have own:(eY q.aI q.aH (kn (S.g k)) (S.g k).time).ay=(S.g k).aw∧(eY q.aI q.aH (kn (S.g k)) (S.g k).time).aq=(S.g k).ar:=by
    unfold eY
    rw[if_pos (show (kn (S.g k)).time≤(S.g k).time from Int.le_refl _)]
    simp only[kn,Int.sub_self,Int.mul_zero,Int.sub_zero,Int.add_zero,and_self]
   omega
  have sym:∀i k,i≤k→k<S.length→KB (kn (S.g i))→KB (kn (S.g k))→(eY q.aI q.aH (kn (S.g k)) (S.g i).time).ay≤(S.g i).ar∧(S.g i).aw≤(eY q.aI q.aH (kn (S.g k)) (S.g i).time).aq:=fun i k kY hk ki kk=>by
   have h:=TL i k kY hk ki kk
   have o:=gs.order i k kY hk
   have M:∀(c x y:Int),0≤c→x≤y→c*x≤c*y:=fun c x y hc hx=>Int.mul_le_mul_of_nonneg_left hx hc
   unfold eY at h ⊢
   rw[if_pos (show (kn (S.g i)).time≤(S.g k).time from o)] at h
   by_cases w:(kn (S.g k)).time≤(S.g i).time
   · have w':(S.g k).time≤(S.g i).time:=w
     have e1:(S.g i).time=(S.g k).time:=by omega
     rw[if_pos w]
     simp only[kn,e1,Int.sub_self,Int.mul_zero,Int.sub_zero,Int.add_zero] at h ⊢
     omega
   · rw[if_neg w]
     simp only[kn] at h ⊢
     omega
  rintro _ ⟨i,hi,ki,rfl⟩ _ ⟨k,hk,kk,rfl⟩
  have wi:=gs.wide i hi;have wk:=gs.wide k hk
  have nonempty:(eY q.aI q.aH (kn (S.g i)) (kn (S.g k)).time).ay≤(eY q.aI q.aH (kn (S.g i)) (kn (S.g k)).time).aq:=by
   have T1:=gs.time i hi;have T2:=gs.time k hk
   unfold eY
   split
   · rename_i w
     obtain ⟨m1,m2⟩:=iP f0 f1 (x:=(kn (S.g k)).time -(kn (S.g i)).time) (by simp only[kn] at w ⊢;omega) (by simp only[kn];omega)
     obtain ⟨m3,m4⟩:=iP r0 r1 (x:=(kn (S.g k)).time -(kn (S.g i)).time) (by simp only[kn] at w ⊢;omega) (by simp only[kn];omega)
     simp only[kn] at *;omega
   · rename_i w
     obtain ⟨m1,m2⟩:=iP f0 f1 (x:=(kn (S.g i)).time -(kn (S.g k)).time) (by simp only[kn] at w ⊢;omega) (by simp only[kn];omega)
     obtain ⟨m3,m4⟩:=iP r0 r1 (x:=(kn (S.g i)).time -(kn (S.g k)).time) (by simp only[kn] at w ⊢;omega) (by simp only[kn];omega)
     simp only[kn] at *;omega
  have pair:(eY q.aI q.aH (kn (S.g i)) (S.g k).time).ay≤(S.g k).ar∧(S.g k).aw≤(eY q.aI q.aH (kn (S.g i)) (S.g k).time).aq:=by
   by_cases w:i≤k
   · exact TL i k w hk ki kk
   · exact sym k i o! hi kk ki
  show max (eY q.aI q.aH (kn (S.g i)) (S.g k).time).ay (S.g k).aw≤min (eY q.aI q.aH (kn (S.g i)) (S.g k).time).aq (S.g k).ar
  have:(eY q.aI q.aH (kn (S.g i)) (S.g k).time).ay≤(eY q.aI q.aH (kn (S.g i)) (S.g k).time).aq:=nonempty
  omega
 refine ⟨⟨fun e h=>?_,fun h=>?_⟩,fun W e=>?_⟩
 · obtain ⟨c,d,t,c1,d1,c2,d2,w⟩:=l1 e
   have:=CH f0 r0 (J3 h ⟨c,c1,c2,rfl⟩ ⟨d,d1,d2,rfl⟩) t (i:=kn (S.g c)) (k:=kn (S.g d)) (by simp) (by simp)
   omega
 · cases e:iV q S.length (S.length - 1) 1 S with
   | none=>rfl
   | some W=>exact absurd (Mh W e) h
 · have fw:=l2 W e
   obtain ⟨b1,b2⟩:=N' f0 f1 r0 r1 gs (S.length - 1) 0 W o! fw.len (fun j hj=>⟨(fw.done j o! o!).1,(fw.done j o! o!).2.1⟩) (fun j hj U9=>by
    obtain rfl:j=S.length - 1:=by omega
    obtain ⟨t1,s1,_⟩:=fw.done (S.length - 1) o! o!
    refine ⟨t1,?_,?_,fun k hk kb=>s1.all k o! kb⟩
    · obtain ⟨c,c1,c2,c3⟩:=s1.ay;exact ⟨c,by omega,c2,c3⟩
    · obtain ⟨c,c1,c2,c3⟩:=s1.aq;exact ⟨c,by omega,c2,c3⟩)
   refine ⟨b1,fun j hj=>?_⟩
   obtain ⟨t1,s1⟩:=b2 j hj
   refine ⟨t1,fun x=>?_⟩
   obtain ⟨c,c1,c2,c3⟩:=s1.ay
   obtain ⟨d,d1,d2,d3⟩:=s1.aq
   rw[t1] at c3 d3
   constructor
   · rintro hx _ ⟨k,hk,kb,rfl⟩
     have:=s1.all k hk kb
     rw[t1] at this;omega
   · intro h
     have:=h _ ⟨c,c1,c2,rfl⟩;have:=h _ ⟨d,d1,d2,rfl⟩;omega
end
end
end Go.Proofs.aG
