import Derived.Test.YtfllahfbmaafcaaW0
import Derived.Test.YtfllahfbmaafcaaW5
set_option linter.unusedVariables false
set_option linter.unusedSimpArgs false
namespace Go.Proofs.aG
open Go.Proofs Ab
noncomputable section
set_option maxRecDepth 100000
set_option maxHeartbeats 4000000
theorem p_ {p:Prop} (h:p:=by first | omega | (simp only[List.length_set,List.length_append,List.length_cons,List.length_nil];omega)):p:=h
theorem wh {p:Prop} (h:p:=by first | omega | (simp only[List.length_set];omega)):p:=h
def yd:Code:=(Try.f92.body).getD .skip
theorem adC:Try.f92.body=some yd:=by kernel_rfl
def W2:Code:=(cc yd).getD 0 .skip
def W3:Code:=(cc yd).getD 1 .skip
def jo:Nat→Nat→List Gate→List Gate
 | 0,_,bt=>bt
 | bD+1,i1,bt=>(bif (decide ((pZ (bt.g (bD+1)) (bt.g ((bD+1) - 1)))<0)) then jo bD (i1+1) ((bt.set (bD+1) (bt.g ((bD+1) - 1))).set ((bD+1) - 1) (bt.g (bD+1))) else bt)
theorem JY {d:Nat} {h:aA} (n:Nat) (op:Bool) (i0:Nat) (dz:Nat) (Js:i0<n) (bS:Tidy h) (D2:h.get dz=none):∀(k_ i_:Nat) (bt:List Gate) (_:i_+k_=i0) (_:(List.length bt=n∧n≤20)) (x:Nat→AV) (hh:aA) (aQ:Tidy hh) (aW:Has h hh) (gQ:h.nx≤hh.nx) (dP:hh.get dz=some (aX.cells (List.flatMap (aF.c (α:=Gate)) bt) 66 false)),e_ (σ:=List Gate) (ζ:=Unit) (cz (d+4)) W3 ⟨((AV.slice dz 0 n n op)::(Zn (0))::(Zn n)::(AV.func 73 [] [])::rx x 4 4 ((Zn i0)::(Zn k_)::rx x 10 43 [])),hh,[],.no⟩ (.exit 2) hh (fun r z y=>((AV.slice dz 0 n n op)::(Zn (0))::(Zn n)::(AV.func 73 [] [])::rx y 4 4 ((Zn i0)::rx y 9 44 []))) (fun r z hk=>Has h hk∧hk.get dz=some (aX.cells (List.flatMap (aF.c (α:=Gate)) r) 66 false)∧(List.length r=n∧n≤20)) (jo k_ i_ bt)
 | 0,i1,bt,kY,Hc,x,hh,aQ,aW,gQ,dP=>by
   have Ce:=aQ _ _ dP
   have q1:(decide (((0:Nat):Int)<((0:Nat):Int)))=false:=d!
   exact e_.out bt () rfl (pk (d+4) _ _ hh _ hh (CN 2<|VV (cI 3 false false .i64 ((0:Nat):Int) ((0:Nat):Int))<|CC<|BB q1<|BB q1<|BB q1<|BB q1<|BB q1<|BB q1<|BB q1<|BB q1<|BB q1<|BB q1<|BB q1<|BV q1 (uL false q1)<|FF<|ZZ) k!) aQ o! ⟨aW,dP,(show (List.length bt=n∧n≤20) from wh)⟩ k!
 | bD+1,i1,bt,kY,Hc,x,hh,aQ,aW,gQ,dP=>by
   have Ce:=aQ _ _ dP
   have q1:(decide (((0:Nat):Int)<(((bD+1):Nat):Int)))=true:=d!
   have A1:cK env (some (.slice 66)) (some (AV.slice dz 0 n n op)) (some (Zn (bD+1)))=some (AV.ptr dz (0+(bD+1)*3)):=cA (size:=3) k! (show (bD+1)<n by omega)
   have ld3:bk env hh 66 (AV.ptr dz (0+(bD+1)*3))=some (AV.agg [(Zi (bt.g (bD+1)).time),(Zi (bt.g (bD+1)).aw),(Zi (bt.g (bD+1)).ar)]):=pL (i:=(bD+1)) dP rfl p_
   have u4:=Lu 3 false true (bD+1) 1 o! o!
   have ix5:cK env (some (.slice 66)) (some (AV.slice dz 0 n n op)) (some (Zn ((bD+1) - 1)))=some (AV.ptr dz (0+((bD+1) - 1)*3)):=cA (size:=3) k! (show ((bD+1) - 1)<n by omega)
   have qv:bk env hh 66 (AV.ptr dz (0+((bD+1) - 1)*3))=some (AV.agg [(Zi (bt.g ((bD+1) - 1)).time),(Zi (bt.g ((bD+1) - 1)).aw),(Zi (bt.g ((bD+1) - 1)).ar)]):=pL (i:=((bD+1) - 1)) dP rfl p_
   have k7:=Tz (d:=d+1) (bt.g (bD+1)) (bt.g ((bD+1) - 1)) trivial trivial aQ
   have c8:AV.same 20 (AV.agg [(Zi (bt.g (bD+1)).time),(Zi (bt.g (bD+1)).aw),(Zi (bt.g (bD+1)).ar)]) (AV.agg [(Zi (bt.g (bD+1)).time),(Zi (bt.g (bD+1)).aw),(Zi (bt.g (bD+1)).ar)])=true:=dM 18 (iC (fun n=>aJ n _ _) (iC (fun n=>aJ n _ _) (iC (fun n=>aJ n _ _) DC)))
   have c9:AV.same 20 (AV.agg [(Zi (bt.g ((bD+1) - 1)).time),(Zi (bt.g ((bD+1) - 1)).aw),(Zi (bt.g ((bD+1) - 1)).ar)]) (AV.agg [(Zi (bt.g ((bD+1) - 1)).time),(Zi (bt.g ((bD+1) - 1)).aw),(Zi (bt.g ((bD+1) - 1)).ar)])=true:=dM 18 (iC (fun n=>aJ n _ _) (iC (fun n=>aJ n _ _) (iC (fun n=>aJ n _ _) DC)))
   have mV:=fun {al ps} (k:Pk al _ ps)=>(CN 2<|VV (cI 3 false false .i64 (((bD+1):Nat):Int) ((0:Nat):Int))<|CC<|BC q1<|BC q1<|BC q1<|BV q1 A1<|BM q1 ld3<|BC q1<|BC q1<|BV q1 u4<|BV q1 ix5<|BM q1 qv<|BB q1<|EE k7<|BV q1 (bK 3 false true .i64 (pZ (bt.g (bD+1)) (bt.g ((bD+1) - 1))) 0)<|VV (ov (decide ((pZ (bt.g (bD+1)) (bt.g ((bD+1) - 1)))<0)) false q1)<|HH (show bk env hh 66 (AV.ptr dz (0+(bD+1)*3))=some (AV.agg [(Zi (bt.g (bD+1)).time),(Zi (bt.g (bD+1)).aw),(Zi (bt.g (bD+1)).ar)]) from (pL (i:=(bD+1)) dP rfl p_))<|HH c8<|HH (show bk env hh 66 (AV.ptr dz (0+((bD+1) - 1)*3))=some (AV.agg [(Zi (bt.g ((bD+1) - 1)).time),(Zi (bt.g ((bD+1) - 1)).aw),(Zi (bt.g ((bD+1) - 1)).ar)]) from (pL (i:=((bD+1) - 1)) dP rfl p_))<|HH c9<|k:Pk _ [] ps)
   rcases bZq (decide ((pZ (bt.g (bD+1)) (bt.g ((bD+1) - 1)))<0)) with f1 | f1
   · have ic:=of_decide_eq_true f1
     have LA:=Lu 3 false true (bD+1) 1 o! o!
     have u12:=Lu 3 false true (bD+1) 1 o! o!
     have G9:cK env (some (.slice 66)) (some (AV.slice dz 0 n n op)) (some (Zn ((bD+1) - 1)))=some (AV.ptr dz (0+((bD+1) - 1)*3)):=cA (size:=3) k! (show ((bD+1) - 1)<n by omega)
     have xH:bk env hh 66 (AV.ptr dz (0+((bD+1) - 1)*3))=some (AV.agg [(Zi (bt.g ((bD+1) - 1)).time),(Zi (bt.g ((bD+1) - 1)).aw),(Zi (bt.g ((bD+1) - 1)).ar)]):=pL (i:=((bD+1) - 1)) dP rfl p_
     have TA:cK env (some (.slice 66)) (some (AV.slice dz 0 n n op)) (some (Zn (bD+1)))=some (AV.ptr dz (0+(bD+1)*3)):=cA (size:=3) k! (show (bD+1)<n by omega)
     have LK:bk env hh 66 (AV.ptr dz (0+(bD+1)*3))=some (AV.agg [(Zi (bt.g (bD+1)).time),(Zi (bt.g (bD+1)).aw),(Zi (bt.g (bD+1)).ar)]):=pL (i:=(bD+1)) dP rfl p_
     have S2:cK env (some (.slice 66)) (some (AV.slice dz 0 n n op)) (some (Zn (bD+1)))=some (AV.ptr dz (0+(bD+1)*3)):=cA (size:=3) k! (show (bD+1)<n by omega)
     obtain ⟨DW,aaJ,E2,ac5,S0,aaK⟩:=ya (i:=(bD+1)) (j:=0) (t:=66) (n:=3) (v:=(AV.agg [(Zi (bt.g ((bD+1) - 1)).time),(Zi (bt.g ((bD+1) - 1)).aw),(Zi (bt.g ((bD+1) - 1)).ar)])) (x:=(bt.g ((bD+1) - 1))) aQ dP rfl p_ k! rfl (by decide) (by simp [AV.cells,AV.scalar]) rfl
     have adD:fE env hh 66 (AV.ptr dz (0+(bD+1)*3)) (AV.agg [(Zi (bt.g ((bD+1) - 1)).time),(Zi (bt.g ((bD+1) - 1)).aw),(Zi (bt.g ((bD+1) - 1)).ar)])=some DW:=aaJ
     have Cw:Has h DW:=Has.mh aW aaK D2
     have TB:cK env (some (.slice 66)) (some (AV.slice dz 0 n n op)) (some (Zn ((bD+1) - 1)))=some (AV.ptr dz (0+((bD+1) - 1)*3)):=cA (size:=3) k! (show ((bD+1) - 1)<n by omega)
     obtain ⟨Vd,aaL,TC,ahG,adE,aaM⟩:=ya (i:=((bD+1) - 1)) (j:=0) (t:=66) (n:=3) (v:=(AV.agg [(Zi (bt.g (bD+1)).time),(Zi (bt.g (bD+1)).aw),(Zi (bt.g (bD+1)).ar)])) (x:=(bt.g (bD+1))) E2 S0 rfl p_ k! rfl (by decide) (by simp [AV.cells,AV.scalar]) rfl
     have adF:fE env DW 66 (AV.ptr dz (0+((bD+1) - 1)*3)) (AV.agg [(Zi (bt.g (bD+1)).time),(Zi (bt.g (bD+1)).aw),(Zi (bt.g (bD+1)).ar)])=some Vd:=aaL
     have TD:Has h Vd:=Has.mh Cw aaM D2
     have u21:=Lu 3 false true (bD+1) 1 o! o!
     exact e_.round (by simp only[jo,f1,ak,aj]) (pk (d+4) _ _ hh _ Vd (mV<|BB f1<|CN 4<|VV LA<|CN 2<|VV u12<|VV G9<|MM xH<|CN 2<|VV TA<|MM LK<|VV S2<|SS adD<|VV TB<|SS adF<|HH (show bk env hh 66 (AV.ptr dz (0+((bD+1) - 1)*3))=some (AV.agg [(Zi (bt.g ((bD+1) - 1)).time),(Zi (bt.g ((bD+1) - 1)).aw),(Zi (bt.g ((bD+1) - 1)).ar)]) from (pL (i:=((bD+1) - 1)) dP rfl p_))<|HH c9<|HH (show bk env hh 66 (AV.ptr dz (0+(bD+1)*3))=some (AV.agg [(Zi (bt.g (bD+1)).time),(Zi (bt.g (bD+1)).aw),(Zi (bt.g (bD+1)).ar)]) from (pL (i:=(bD+1)) dP rfl p_))<|HH c8<|CC<|VV u21<|CC<|ZZ) k!) o! _ k! (fun x=>JY n op i0 dz Js bS D2 bD (i1+1) ((bt.set (bD+1) (bt.g ((bD+1) - 1))).set ((bD+1) - 1) (bt.g (bD+1))) o! (show (List.length ((bt.set (bD+1) (bt.g ((bD+1) - 1))).set ((bD+1) - 1) (bt.g (bD+1)))=n∧n≤20) from wh) x Vd TC TD o! adE)
   · have ic:=of_decide_eq_false f1
     exact e_.out bt () (by simp only[jo,f1,ak,aj]) (pk (d+4) _ _ hh _ hh (mV<|BB f1<|ZZ) k!) aQ o! ⟨aW,dP,(show (List.length bt=n∧n≤20) from wh)⟩ k!
def eI (n:Nat):Nat→Nat→List Gate→List Gate
 | 0,_,jq=>jq
 | dQ+1,i0,jq=>eI n dQ (i0+1) (jo i0 0 jq)
theorem JZ {d:Nat} {h:aA} (n:Nat) (op:Bool) (bL:Nat) (bS:Tidy h) (pU:h.get bL=none):∀(k_ i_:Nat) (jq:List Gate) (_:i_+k_=n) (_:(List.length jq=n∧n≤20)) (x:Nat→AV) (hh:aA) (aQ:Tidy hh) (aW:Has h hh) (gQ:h.nx≤hh.nx) (bG:hh.get bL=some (aX.cells (List.flatMap (aF.c (α:=Gate)) jq) 66 false)),e_ (σ:=List Gate) (ζ:=Unit) (cz (d+4)) W2 ⟨((AV.slice bL 0 n n op)::(Zn (0))::(Zn n)::(AV.func 73 [] [])::rx x 4 4 ((Zn i_)::rx x 9 44 [])),hh,[],.no⟩ (.exit 0) hh (fun r z y=>((AV.slice bL 0 n n op)::(Zn (0))::(Zn n)::(AV.func 73 [] [])::rx y 4 49 [])) (fun r z hk=>Has h hk∧hk.get bL=some (aX.cells (List.flatMap (aF.c (α:=Gate)) r) 66 false)∧(List.length r=n∧n≤20)) (eI n k_ i_ jq)
 | 0,i0,jq,kY,Hc,x,hh,aQ,aW,gQ,bG=>by
   have pS:=aQ _ _ bG
   have q1:(decide (((i0:Nat):Int)<((n:Nat):Int)))=false:=d!
   exact e_.out jq () rfl (pk (d+4) _ _ hh _ hh (CN 2<|VV (bK 3 false false .i64 ((i0:Nat):Int) ((n:Nat):Int))<|BB q1<|ZZ) k!) aQ o! ⟨aW,bG,(show (List.length jq=n∧n≤20) from wh)⟩ k!
 | dQ+1,i0,jq,kY,Hc,x,hh,aQ,aW,gQ,bG=>by
   have pS:=aQ _ _ bG
   have q1:(decide (((i0:Nat):Int)<((n:Nat):Int)))=true:=d!
   obtain ⟨_,Qq,h3,fG,fA,qw,tp,tq,NS⟩:=JY (d:=d) (h:=h) n op i0 bL o! bS pU i0 0 jq o! (show (List.length jq=n∧n≤20) from wh) (fun k_=>(((AV.slice bL 0 n n op)::(Zn (0))::(Zn n)::(AV.func 73 [] [])::rx x 4 4 ((Zn i0)::(Zn i0)::(x 10)::(x 11)::(Zn i0)::(Zn n)::(AV.bool (decide (((i0:Nat):Int)<((n:Nat):Int))))::(x 15)::(x 16)::(Zn i0)::rx x 18 35 [])):List AV).getD k_ AV.undef) hh aQ aW o! bG
   have fl:Has h h3:=tp
   have u4:=fu 3 false true i0 1 o!
   exact e_.round (by simp only[eI,ak,aj]) (pk (d+4) _ _ hh _ h3 (CN 2<|VV (bK 3 false false .i64 ((i0:Nat):Int) ((n:Nat):Int))<|BB q1<|CN 2<|LL fG<|CC<|VV u4<|CC<|ZZ) k!) o! _ k! (fun x=>JZ n op bL bS pU dQ (i0+1) (jo i0 0 jq) o! (show (List.length (jo i0 0 jq)=n∧n≤20) from wh) x h3 fA fl o! tq)
theorem Yy {d:Nat} {hh:aA} {p n:Nat} {op:Bool} {L:List Gate} (aQ:Tidy hh) (gp:hh.get p=some (.cells (List.flatMap (aF.c (α:=Gate)) L) 66 false)) (hn:L.length=n) (K6:n≤20) (W5:1≤n):
 ∃hk,cz (d+5) (.fn 92) [.slice p 0 n n op,Zi 0,Zn n,.func 73 [] []] hh= .ret (.tuple []) hk∧Tidy hk∧hh.nx≤hk.nx∧hk.get p=some (.cells (List.flatMap (aF.c (α:=Gate)) (eI n (n - 1) 1 L)) 66 false)∧Kept p hh hk:=by
 obtain ⟨h,bS,aW,hp,gQ,kp,_⟩:=mi aQ gp
 have T_p:=aQ _ _ gp
 have u1:=fu 3 false true 0 1 o!
 obtain ⟨_,Qq,h3,fG,fA,qw,tp,tq,NS⟩:=JZ (d:=d) (h:=h) n op p bS hp (n -(0+1)) (0+1) L o! (show (List.length L=n∧n≤20) from wh) (fun k_=>(((AV.slice p 0 n n op)::(Zn (0))::(Zn n)::(AV.func 73 [] [])::AV.undef::AV.undef::AV.undef::AV.undef::(Zn (0+1))::AV.undef::(Zn (0))::(Zn (0+1))::iL 41):List AV).getD k_ AV.undef) hh aQ aW o! gp
 have fl:Has h h3:=tp
 have ev:=pk (d+4) yd ((AV.slice p 0 n n op)::(Zn (0))::(Zn n)::(AV.func 73 [] [])::iL 49) hh .normal h3 (CC<|VV u1<|CC<|LL fG<|ZZ) k!
 obtain ⟨hk,e,q⟩:=ib rfl (ba Try.func92 adC k! (.inl rfl) ev k!)
 refine ⟨hk,e,?_⟩
 rcases q with rfl | ⟨rfl,A⟩
 · exact ⟨fA,qw,tq,kp _ tp⟩
 · refine ⟨aQ,Nat.le_refl _,?_,fun _ _ _ q=>q⟩
   rw[A _ _ gp] at tq
   rw[gp];exact tq
theorem CW:∀(k i:Nat) (C:List Gate),(jo k i C).length=C.length
 | 0,_,_=>rfl
 | k+1,i,C=>by
   rw[jo]
   cases decide (pZ (C.g (k+1)) (C.g ((k+1) - 1))<0) with
   | true=>rw[ak,CW k];simp
   | false=>rfl
theorem N4 {n:Nat}:∀(k i:Nat) (C:List Gate),(eI n k i C).length=C.length
 | 0,_,_=>rfl
 | k+1,i,C=>by rw[eI,N4 k,CW]
def ye:Code:=(Try.f87.body).getD .skip
theorem adG:Try.f87.body=some ye:=by kernel_rfl
def Hq:Code:=(cc ye).getD 0 .skip
def Hr:Code:=(cc ye).getD 1 .skip
theorem adH {d:Nat} {hh:aA} {p n:Nat} {op:Bool} {L:List Gate} (aQ:Tidy hh) (gp:hh.get p=some (.cells (List.flatMap (aF.c (α:=Gate)) L) 66 false)) (hn:L.length=n) (K6:n≤19) (W5:1≤n):
 ∃hk,cz (d+6) (.fn 87) [.slice p 0 n n op,Zn n,.func 73 [] []] hh= .ret (.tuple []) hk∧Tidy hk∧hh.nx≤hk.nx∧hk.get p=some (.cells (List.flatMap (aF.c (α:=Gate)) (eI n (n - 1) 1 L)) 66 false)∧Kept p hh hk:=by
 obtain ⟨h,bS,aW,hp,gQ,kp,_⟩:=mi aQ gp
 have T_p:=aQ _ _ gp
 have q1:(decide (20≤((n:Nat):Int)))=false:=d!
 have ur2:Ev env (cz (d+5)) Hq ⟨((AV.slice p 0 n n op)::(Zn n)::(AV.func 73 [] [])::AV.undef::AV.undef::AV.undef::(Zi 20)::(Zi 0)::(Zi 20)::AV.undef::(Zi 20)::iL 52),hh,[],.no⟩ (.exit 0) ⟨((AV.slice p 0 n n op)::(Zn n)::(AV.func 73 [] [])::AV.undef::AV.undef::AV.undef::(Zi 20)::(Zi 0)::(Zi 20)::AV.undef::(Zi 20)::(Zi 20)::(Zn n)::(AV.bool (decide (20≤((n:Nat):Int))))::iL 49),hh,[],.no⟩:=Ev.to (pk (d+5) Hq ((AV.slice p 0 n n op)::(Zn n)::(AV.func 73 [] [])::AV.undef::AV.undef::AV.undef::(Zi 20)::(Zi 0)::(Zi 20)::AV.undef::(Zi 20)::iL 52) hh (.exit 0) hh (CN 2<|VV (sf 3 false false .i64 20 ((n:Nat):Int))<|BB q1<|ZZ) k!) k!
 obtain ⟨h3,Hs,fA,qw,pT,Yz⟩:=Yy (d:=d) (n:=n) (op:=op) aQ gp hn o! W5
 have fl:Has h h3:=Has.mh aW Yz hp
 have q4:(decide (20<((n:Nat):Int)))=false:=d!
 have ur5:Ev env (cz (d+5)) Hr ⟨((AV.slice p 0 n n op)::(Zn n)::(AV.func 73 [] [])::AV.undef::AV.undef::AV.undef::(Zi 20)::(Zi 0)::(Zi 20)::AV.undef::(Zi 20)::(Zi 20)::(Zn n)::(AV.bool (decide (20≤((n:Nat):Int))))::AV.undef::AV.undef::AV.undef::AV.undef::AV.undef::AV.undef::AV.undef::AV.undef::AV.undef::(AV.slice p 0 n n op)::(Zi 0)::(Zn n)::(AV.func 73 [] [])::(AV.tuple [])::iL 35),h3,[],.no⟩ (.exit 2) ⟨((AV.slice p 0 n n op)::(Zn n)::(AV.func 73 [] [])::AV.undef::AV.undef::AV.undef::(Zi 20)::(Zi 0)::(Zi 20)::AV.undef::(Zi 20)::(Zi 20)::(Zn n)::(AV.bool (decide (20≤((n:Nat):Int))))::AV.undef::AV.undef::AV.undef::AV.undef::AV.undef::AV.undef::AV.undef::AV.undef::AV.undef::(AV.slice p 0 n n op)::(Zi 0)::(Zn n)::(AV.func 73 [] [])::(AV.tuple [])::(Zi 20)::(Zn n)::(AV.bool (decide (20<((n:Nat):Int))))::iL 32),h3,[],.no⟩:=Ev.to (pk (d+5) Hr ((AV.slice p 0 n n op)::(Zn n)::(AV.func 73 [] [])::AV.undef::AV.undef::AV.undef::(Zi 20)::(Zi 0)::(Zi 20)::AV.undef::(Zi 20)::(Zi 20)::(Zn n)::(AV.bool (decide (20≤((n:Nat):Int))))::AV.undef::AV.undef::AV.undef::AV.undef::AV.undef::AV.undef::AV.undef::AV.undef::AV.undef::(AV.slice p 0 n n op)::(Zi 0)::(Zn n)::(AV.func 73 [] [])::(AV.tuple [])::iL 35) h3 (.exit 2) h3 (CN 2<|VV (bK 3 false false .i64 20 ((n:Nat):Int))<|BB q4<|ZZ) k!) k!
 have ev:=pk (d+5) ye ((AV.slice p 0 n n op)::(Zn n)::(AV.func 73 [] [])::iL 60) hh .normal h3 (CN 4<|LL (show Ev env (cz (d+5)) (.loop Hq) ⟨((AV.slice p 0 n n op)::(Zn n)::(AV.func 73 [] [])::AV.undef::AV.undef::AV.undef::(Zi 20)::(Zi 0)::(Zi 20)::AV.undef::(Zi 20)::iL 52),hh,[],.no⟩ (.exit 0) ⟨((AV.slice p 0 n n op)::(Zn n)::(AV.func 73 [] [])::AV.undef::AV.undef::AV.undef::(Zi 20)::(Zi 0)::(Zi 20)::AV.undef::(Zi 20)::(Zi 20)::(Zn n)::(AV.bool (decide (20≤((n:Nat):Int))))::iL 49),hh,[],.no⟩ from (Ev.out ur2))<|CN 4<|EE Hs<|LL (show Ev env (cz (d+5)) (.loop Hr) ⟨((AV.slice p 0 n n op)::(Zn n)::(AV.func 73 [] [])::AV.undef::AV.undef::AV.undef::(Zi 20)::(Zi 0)::(Zi 20)::AV.undef::(Zi 20)::(Zi 20)::(Zn n)::(AV.bool (decide (20≤((n:Nat):Int))))::AV.undef::AV.undef::AV.undef::AV.undef::AV.undef::AV.undef::AV.undef::AV.undef::AV.undef::(AV.slice p 0 n n op)::(Zi 0)::(Zn n)::(AV.func 73 [] [])::(AV.tuple [])::iL 35),h3,[],.no⟩ (.exit 2) ⟨((AV.slice p 0 n n op)::(Zn n)::(AV.func 73 [] [])::AV.undef::AV.undef::AV.undef::(Zi 20)::(Zi 0)::(Zi 20)::AV.undef::(Zi 20)::(Zi 20)::(Zn n)::(AV.bool (decide (20≤((n:Nat):Int))))::AV.undef::AV.undef::AV.undef::AV.undef::AV.undef::AV.undef::AV.undef::AV.undef::AV.undef::(AV.slice p 0 n n op)::(Zi 0)::(Zn n)::(AV.func 73 [] [])::(AV.tuple [])::(Zi 20)::(Zn n)::(AV.bool (decide (20<((n:Nat):Int))))::iL 32),h3,[],.no⟩ from (Ev.out ur5))<|ZZ) k!
 obtain ⟨hk,e,q⟩:=ib rfl (ba Try.func87 adG k! (.inl rfl) ev k!)
 refine ⟨hk,e,?_⟩
 rcases q with rfl | ⟨rfl,A⟩
 · exact ⟨fA,qw,pT,Yz⟩
 · refine ⟨aQ,Nat.le_refl _,?_,fun _ _ _ q=>q⟩
   rw[A _ _ gp] at pT
   rw[gp];exact pT
def zt:Code:=(Try.f92.body).getD .skip
theorem aaN:Try.f92.body=some zt:=by kernel_rfl
def CX:Code:=(cc zt).getD 0 .skip
theorem aaO {d:Nat} {hh:aA} {p:Nat} {op:Bool}:cz (d+1) (.fn 92) [.slice p 0 20 20 op,Zi 20,Zi 20,.func 73 [] []] hh= .ret (.tuple []) hh:=by
 have q1:(decide ((IntKind.i64.wrap (20+1))<20))=false:=(by first | exact dT o! | exact dF o! | decide)
 have ur2:Ev env (cz (d)) CX ⟨((AV.slice p 0 20 20 op)::(Zi 20)::(Zi 20)::(AV.func 73 [] [])::AV.undef::AV.undef::AV.undef::AV.undef::(Zi (IntKind.i64.wrap (20+1)))::AV.undef::(Zi 20)::(Zi (IntKind.i64.wrap (20+1)))::iL 41),hh,[],.no⟩ (.exit 0) ⟨((AV.slice p 0 20 20 op)::(Zi 20)::(Zi 20)::(AV.func 73 [] [])::AV.undef::AV.undef::AV.undef::AV.undef::(Zi (IntKind.i64.wrap (20+1)))::AV.undef::(Zi 20)::(Zi (IntKind.i64.wrap (20+1)))::(Zi (IntKind.i64.wrap (20+1)))::(Zi 20)::(AV.bool (decide ((IntKind.i64.wrap (20+1))<20)))::iL 38),hh,[],.no⟩:=Ev.to (pk (d) CX ((AV.slice p 0 20 20 op)::(Zi 20)::(Zi 20)::(AV.func 73 [] [])::AV.undef::AV.undef::AV.undef::AV.undef::(Zi (IntKind.i64.wrap (20+1)))::AV.undef::(Zi 20)::(Zi (IntKind.i64.wrap (20+1)))::iL 41) hh (.exit 0) hh (CN 2<|VV (bK 3 false false .i64 (IntKind.i64.wrap (20+1)) 20)<|BB q1<|ZZ) k!) k!
 have ev:=pk (d) zt ((AV.slice p 0 20 20 op)::(Zi 20)::(Zi 20)::(AV.func 73 [] [])::iL 49) hh .normal hh (CN 3<|LL (show Ev env (cz (d)) (.loop CX) ⟨((AV.slice p 0 20 20 op)::(Zi 20)::(Zi 20)::(AV.func 73 [] [])::AV.undef::AV.undef::AV.undef::AV.undef::(Zi (IntKind.i64.wrap (20+1)))::AV.undef::(Zi 20)::(Zi (IntKind.i64.wrap (20+1)))::iL 41),hh,[],.no⟩ (.exit 0) ⟨((AV.slice p 0 20 20 op)::(Zi 20)::(Zi 20)::(AV.func 73 [] [])::AV.undef::AV.undef::AV.undef::AV.undef::(Zi (IntKind.i64.wrap (20+1)))::AV.undef::(Zi 20)::(Zi (IntKind.i64.wrap (20+1)))::(Zi (IntKind.i64.wrap (20+1)))::(Zi 20)::(AV.bool (decide ((IntKind.i64.wrap (20+1))<20)))::iL 38),hh,[],.no⟩ from (Ev.out ur2))<|ZZ) k!
 obtain ⟨hk,e,q⟩:=ib rfl (ba Try.func92 aaN k! (.inl rfl) ev k!)
 rcases q with rfl | ⟨rfl,A⟩<;>exact e
def yf:Code:=(Try.f87.body).getD .skip
theorem adI:Try.f87.body=some yf:=by kernel_rfl
def yg:Code:=(cc yf).getD 0 .skip
def Ht:Code:=(cc yf).getD 1 .skip
theorem adJ {d:Nat} {hh:aA} {p:Nat} {op:Bool} {L:List Gate} (aQ:Tidy hh) (gp:hh.get p=some (.cells (List.flatMap (aF.c (α:=Gate)) L) 66 false)) (hn:L.length=20):
 ∃hk,cz (d+6) (.fn 87) [.slice p 0 20 20 op,Zi 20,.func 73 [] []] hh= .ret (.tuple []) hk∧Tidy hk∧hh.nx≤hk.nx∧hk.get p=some (.cells (List.flatMap (aF.c (α:=Gate)) (eI 20 (20 - 1) 1 L)) 66 false)∧Kept p hh hk:=by
 obtain ⟨h,bS,aW,hp,gQ,kp,_⟩:=mi aQ gp
 have T_p:=aQ _ _ gp
 have q1:(decide (20≤20))=true:=(by first | exact dT o! | exact dF o! | decide)
 obtain ⟨h2,TF,eQ,zn,cO,vk⟩:=Yy (d:=d) (n:=20) (op:=op) aQ gp hn o! o!
 have dZ:Has h h2:=Has.mh aW vk hp
 have ur3:Ev env (cz (d+5)) yg ⟨((AV.slice p 0 20 20 op)::(Zi 20)::(AV.func 73 [] [])::AV.undef::AV.undef::AV.undef::(Zi 20)::(Zi 0)::(Zi 20)::AV.undef::(Zi 20)::iL 52),hh,[],.no⟩ .normal ⟨((AV.slice p 0 20 20 op)::(Zi 20)::(AV.func 73 [] [])::AV.undef::AV.undef::AV.undef::(Zi 20)::(Zi 20)::(Zi 40)::AV.undef::(Zi 20)::(Zi 20)::(Zi 20)::(AV.bool (decide (20≤20)))::(AV.slice p 0 20 20 op)::(Zi 0)::(Zi 20)::(AV.func 73 [] [])::(AV.tuple [])::(Zi 20)::(Zi 20)::(Zi 20)::(Zi 40)::iL 40),h2,[],.no⟩:=Ev.to (pk (d+5) yg ((AV.slice p 0 20 20 op)::(Zi 20)::(AV.func 73 [] [])::AV.undef::AV.undef::AV.undef::(Zi 20)::(Zi 0)::(Zi 20)::AV.undef::(Zi 20)::iL 52) hh .normal h2 (CN 2<|VV (sf 3 false false .i64 20 20)<|BB q1<|CN 4<|EE TF<|CN 6<|ZZ) k!) k!
 have q4:(decide (40≤20))=false:=(by first | exact dT o! | exact dF o! | decide)
 have ur5:Ev env (cz (d+5)) yg ⟨((AV.slice p 0 20 20 op)::(Zi 20)::(AV.func 73 [] [])::AV.undef::AV.undef::AV.undef::(Zi 20)::(Zi 20)::(Zi 40)::AV.undef::(Zi 20)::(Zi 20)::(Zi 20)::(AV.bool (decide (20≤20)))::(AV.slice p 0 20 20 op)::(Zi 0)::(Zi 20)::(AV.func 73 [] [])::(AV.tuple [])::(Zi 20)::(Zi 20)::(Zi 20)::(Zi 40)::iL 40),h2,[],.no⟩ (.exit 0) ⟨((AV.slice p 0 20 20 op)::(Zi 20)::(AV.func 73 [] [])::AV.undef::AV.undef::AV.undef::(Zi 20)::(Zi 20)::(Zi 40)::AV.undef::(Zi 20)::(Zi 40)::(Zi 20)::(AV.bool (decide (40≤20)))::(AV.slice p 0 20 20 op)::(Zi 0)::(Zi 20)::(AV.func 73 [] [])::(AV.tuple [])::(Zi 20)::(Zi 20)::(Zi 20)::(Zi 40)::iL 40),h2,[],.no⟩:=Ev.to (pk (d+5) yg ((AV.slice p 0 20 20 op)::(Zi 20)::(AV.func 73 [] [])::AV.undef::AV.undef::AV.undef::(Zi 20)::(Zi 20)::(Zi 40)::AV.undef::(Zi 20)::(Zi 20)::(Zi 20)::(AV.bool (decide (20≤20)))::(AV.slice p 0 20 20 op)::(Zi 0)::(Zi 20)::(AV.func 73 [] [])::(AV.tuple [])::(Zi 20)::(Zi 20)::(Zi 20)::(Zi 40)::iL 40) h2 (.exit 0) h2 (CN 2<|VV (sf 3 false false .i64 40 20)<|BB q4<|ZZ) k!) k!
 have q6:(decide (20<20))=false:=(by first | exact dT o! | exact dF o! | decide)
 have ur7:Ev env (cz (d+5)) Ht ⟨((AV.slice p 0 20 20 op)::(Zi 20)::(AV.func 73 [] [])::AV.undef::AV.undef::AV.undef::(Zi 20)::(Zi 20)::(Zi 40)::AV.undef::(Zi 20)::(Zi 40)::(Zi 20)::(AV.bool (decide (40≤20)))::(AV.slice p 0 20 20 op)::(Zi 0)::(Zi 20)::(AV.func 73 [] [])::(AV.tuple [])::(Zi 20)::(Zi 20)::(Zi 20)::(Zi 40)::(AV.slice p 0 20 20 op)::(Zi 20)::(Zi 20)::(AV.func 73 [] [])::(AV.tuple [])::iL 35),h2,[],.no⟩ (.exit 2) ⟨((AV.slice p 0 20 20 op)::(Zi 20)::(AV.func 73 [] [])::AV.undef::AV.undef::AV.undef::(Zi 20)::(Zi 20)::(Zi 40)::AV.undef::(Zi 20)::(Zi 40)::(Zi 20)::(AV.bool (decide (40≤20)))::(AV.slice p 0 20 20 op)::(Zi 0)::(Zi 20)::(AV.func 73 [] [])::(AV.tuple [])::(Zi 20)::(Zi 20)::(Zi 20)::(Zi 40)::(AV.slice p 0 20 20 op)::(Zi 20)::(Zi 20)::(AV.func 73 [] [])::(AV.tuple [])::(Zi 20)::(Zi 20)::(AV.bool (decide (20<20)))::iL 32),h2,[],.no⟩:=Ev.to (pk (d+5) Ht ((AV.slice p 0 20 20 op)::(Zi 20)::(AV.func 73 [] [])::AV.undef::AV.undef::AV.undef::(Zi 20)::(Zi 20)::(Zi 40)::AV.undef::(Zi 20)::(Zi 40)::(Zi 20)::(AV.bool (decide (40≤20)))::(AV.slice p 0 20 20 op)::(Zi 0)::(Zi 20)::(AV.func 73 [] [])::(AV.tuple [])::(Zi 20)::(Zi 20)::(Zi 20)::(Zi 40)::(AV.slice p 0 20 20 op)::(Zi 20)::(Zi 20)::(AV.func 73 [] [])::(AV.tuple [])::iL 35) h2 (.exit 2) h2 (CN 2<|VV (bK 3 false false .i64 20 20)<|BB q6<|ZZ) k!) k!
 have ev:=pk (d+5) yf ((AV.slice p 0 20 20 op)::(Zi 20)::(AV.func 73 [] [])::iL 60) hh .normal h2 (CN 4<|LL (show Ev env (cz (d+5)) (.loop yg) ⟨((AV.slice p 0 20 20 op)::(Zi 20)::(AV.func 73 [] [])::AV.undef::AV.undef::AV.undef::(Zi 20)::(Zi 0)::(Zi 20)::AV.undef::(Zi 20)::iL 52),hh,[],.no⟩ (.exit 0) ⟨((AV.slice p 0 20 20 op)::(Zi 20)::(AV.func 73 [] [])::AV.undef::AV.undef::AV.undef::(Zi 20)::(Zi 20)::(Zi 40)::AV.undef::(Zi 20)::(Zi 40)::(Zi 20)::(AV.bool (decide (40≤20)))::(AV.slice p 0 20 20 op)::(Zi 0)::(Zi 20)::(AV.func 73 [] [])::(AV.tuple [])::(Zi 20)::(Zi 20)::(Zi 20)::(Zi 40)::iL 40),h2,[],.no⟩ from (Ev.loop ur3 (Ev.out ur5)))<|CN 4<|EE (show (cz (d+5)) (.fn 92) [(AV.slice p 0 20 20 op),(Zi 20),(Zi 20),(AV.func 73 [] [])] h2= .ret (AV.tuple []) h2 from (aaO (d:=d+4)))<|LL (show Ev env (cz (d+5)) (.loop Ht) ⟨((AV.slice p 0 20 20 op)::(Zi 20)::(AV.func 73 [] [])::AV.undef::AV.undef::AV.undef::(Zi 20)::(Zi 20)::(Zi 40)::AV.undef::(Zi 20)::(Zi 40)::(Zi 20)::(AV.bool (decide (40≤20)))::(AV.slice p 0 20 20 op)::(Zi 0)::(Zi 20)::(AV.func 73 [] [])::(AV.tuple [])::(Zi 20)::(Zi 20)::(Zi 20)::(Zi 40)::(AV.slice p 0 20 20 op)::(Zi 20)::(Zi 20)::(AV.func 73 [] [])::(AV.tuple [])::iL 35),h2,[],.no⟩ (.exit 2) ⟨((AV.slice p 0 20 20 op)::(Zi 20)::(AV.func 73 [] [])::AV.undef::AV.undef::AV.undef::(Zi 20)::(Zi 20)::(Zi 40)::AV.undef::(Zi 20)::(Zi 40)::(Zi 20)::(AV.bool (decide (40≤20)))::(AV.slice p 0 20 20 op)::(Zi 0)::(Zi 20)::(AV.func 73 [] [])::(AV.tuple [])::(Zi 20)::(Zi 20)::(Zi 20)::(Zi 40)::(AV.slice p 0 20 20 op)::(Zi 20)::(Zi 20)::(AV.func 73 [] [])::(AV.tuple [])::(Zi 20)::(Zi 20)::(AV.bool (decide (20<20)))::iL 32),h2,[],.no⟩ from (Ev.out ur7))<|ZZ) k!
 obtain ⟨hk,e,q⟩:=ib rfl (ba Try.func87 adI k! (.inl rfl) ev k!)
 refine ⟨hk,e,?_⟩
 rcases q with rfl | ⟨rfl,A⟩
 · exact ⟨eQ,zn,cO,vk⟩
 · refine ⟨aQ,Nat.le_refl _,?_,fun _ _ _ q=>q⟩
   rw[A _ _ gp] at cO
   rw[gp];exact cO
theorem adK {d:Nat} {hh:aA} {p n:Nat} {op:Bool} {L:List Gate} (aQ:Tidy hh) (gp:hh.get p=some (.cells (List.flatMap (aF.c (α:=Gate)) L) 66 false)) (hn:L.length=n) (K6:n≤20) (W5:1≤n):
 ∃hk,cz (d+6) (.fn 87) [.slice p 0 n n op,Zn n,.func 73 [] []] hh= .ret (.tuple []) hk∧Tidy hk∧hh.nx≤hk.nx∧hk.get p=some (.cells (List.flatMap (aF.c (α:=Gate)) (eI n (n - 1) 1 L)) 66 false)∧Kept p hh hk:=by
 by_cases h:n≤19
 · exact adH aQ gp hn h W5
 · obtain rfl:n=20:=by omega
   exact adJ aQ gp hn
def J0:Code:=(Try.f72.body).getD .skip
theorem adL:Try.f72.body=some J0:=by kernel_rfl
theorem YA {d:Nat} {hh:aA} {p n:Nat} {op:Bool} {L:List Gate} (aQ:Tidy hh) (gp:hh.get p=some (.cells (List.flatMap (aF.c (α:=Gate)) L) 66 false)) (hn:L.length=n) (K6:n≤20) (W5:1≤n):
 ∃hk,cz (d+7) (.fn 72) [.slice p 0 n n op,.func 73 [] []] hh= .ret (.tuple []) hk∧Tidy hk∧hh.nx≤hk.nx∧hk.get p=some (.cells (List.flatMap (aF.c (α:=Gate)) (eI n (n - 1) 1 L)) 66 false)∧Kept p hh hk:=by
 obtain ⟨h,bS,aW,hp,gQ,kp,_⟩:=mi aQ gp
 have T_p:=aQ _ _ gp
 obtain ⟨h1,agd,cg,age,bf,YB⟩:=adK (d:=d) (n:=n) (op:=op) aQ gp hn K6 W5
 have bA:Has h h1:=Has.mh aW YB hp
 have ev:=pk (d+6) J0 ((AV.slice p 0 n n op)::(AV.func 73 [] [])::iL 7) hh .normal h1 (CN 4<|EE agd<|ZZ) k!
 obtain ⟨hk,e,q⟩:=ib rfl (ba Try.func72 adL k! (.inl rfl) ev k!)
 refine ⟨hk,e,?_⟩
 rcases q with rfl | ⟨rfl,A⟩
 · exact ⟨cg,age,bf,YB⟩
 · refine ⟨aQ,Nat.le_refl _,?_,fun _ _ _ q=>q⟩
   rw[A _ _ gp] at bf
   rw[gp];exact bf
def D3:Code:=(Try.f75.body).getD .skip
theorem Mc:Try.f75.body=some D3:=by kernel_rfl
def bw (a:Span) (b:Span):Span:=(⟨(imax a.ay b.ay),(xB a.aq b.aq)⟩:Span)
theorem CY {d:Nat} {h:aA} (a:Span) (b:Span) (h_a:aF.ok h a) (h_b:aF.ok h b) (bS:Tidy h):cz (d+1) (.fn 75) [(AV.agg [(Zi a.ay),(Zi a.aq)]),(AV.agg [(Zi b.ay),(Zi b.aq)])] h= .ret (AV.agg [(Zi (bw a b).ay),(Zi (bw a b).aq)]) h:=by
 obtain ⟨h1,cj,cg,iu,bf,cf⟩:=fY bS (aX.cells [(Zi a.ay),(Zi a.aq)] 23 false)
 have bA:Has h h1:=cf
 obtain ⟨h2,iw,eQ,te,cO,dg⟩:=fY cg (aX.cells [(Zi b.ay),(Zi b.aq)] 23 false)
 have dZ:Has h h2:=bA.trans dg
 obtain ⟨h3,tf,fA,LD,pT,dq⟩:=fY eQ (aX.cells [(Zi 0),(Zi 0)] 23 false)
 have fl:Has h h3:=dZ.trans dq
 obtain ⟨h4,Z_,oh,Ps,zl,SI⟩:=rA (t:=23) (n:=2) (i:=h2.nx) (L:=[(Zi (imax a.ay b.ay)),(Zi (xB a.aq b.aq))]) fA pT k! rfl rfl (by simp only[AV.cells,List.all_cons,List.all_nil,Bool.and_true,Bool.and_self,eL,dw,eM,eN,cH,gZ,g_,hB,hD,hI,eO])
 have nO:Has h h4:=Has.cS fl SI bS o!
 have e:bw a b=(⟨(imax a.ay b.ay),(xB a.aq b.aq)⟩:Span):=by simp only[bw,ak,aj]
 rw[e]
 exact aE rfl (hS (a:=4) (t:=23) (i:=h2.nx) Try.func75 Mc rfl (.inr rfl) (pk (d) _ _ h _ h4 (NN cj (fun i=>(Pt i))<|NN iw (fun i=>(Pt i))<|NN tf (fun i=>(Pt i))<|CC<|MM (aO 3 0 (Zi a.ay) (dq _ _ (dg _ _ bf)) k!)<|CC<|MM (aO 3 0 (Zi b.ay) (dq _ _ cO) k!)<|CN 2<|MM (aO 3 1 (Zi a.aq) (dq _ _ (dg _ _ bf)) k!)<|CC<|MM (aO 3 1 (Zi b.aq) (dq _ _ cO) k!)<|CN 2<|SS Z_<|ZZ) k!) k! (kN zl k!)) nO rfl
end
end Go.Proofs.aG
