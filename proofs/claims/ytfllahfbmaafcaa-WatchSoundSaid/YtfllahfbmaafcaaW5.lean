import Derived.Test.YtfllahfbmaafcaaW0
import Derived.Test.YtfllahfbmaafcaaW4
import Derived.Test.YtfllahfbmaafcaaW2
namespace Go.Proofs.aH
open Go.Proofs Ab
noncomputable section
set_option maxRecDepth 100000
set_option maxHeartbeats 4000000
set_option linter.unusedVariables false
set_option linter.unusedSimpArgs false
def xP:Code:=(Try.f87.body).getD .skip
theorem aex:Try.f87.body=some xP:=by kernel_rfl
def Hh:Code:=(cC xP).getD 0 .skip
def Hj:Code:=(cC xP).getD 1 .skip
theorem aey {d:Nat} {hh:au} {p n:Nat} {op:Bool} {L:List Gate} (aN:Tidy hh) (gp:hh.get p=some (.cells (List.flatMap (aA.c (α:=Gate)) L) 66 false)) (hn:L.length=n) (Ng:n≤19) (hn3:1≤n):
 ∃hk,cW (d+6) (.fn 87) [.slice p 0 n n op,Zn n,.func 73 [] []] hh= .ret (.tuple []) hk∧Tidy hk∧hh.nx≤hk.nx∧hk.get p=some (.cells (List.flatMap (aA.c (α:=Gate)) (eZ n (n - 1) 1 L)) 66 false)∧Kept p hh hk:=by
 obtain ⟨h,bY,bj,hp,jo,kp,_⟩:=xK aN gp
 have T_p:=aN _ _ gp
 have q1:(decide (20≤((n:Nat):Int)))=false:=d!
 have ur2:Ev env (cW (d+5)) Hh ⟨((AV.slice p 0 n n op)::(Zn n)::(AV.func 73 [] [])::AV.undef::AV.undef::AV.undef::(Zi 20)::(Zi 0)::(Zi 20)::AV.undef::(Zi 20)::kX 52),hh,[],.no⟩ (.exit 0) ⟨((AV.slice p 0 n n op)::(Zn n)::(AV.func 73 [] [])::AV.undef::AV.undef::AV.undef::(Zi 20)::(Zi 0)::(Zi 20)::AV.undef::(Zi 20)::(Zi 20)::(Zn n)::(AV.bool (decide (20≤((n:Nat):Int))))::kX 49),hh,[],.no⟩:=Ev.to (pk (d+5) Hh ((AV.slice p 0 n n op)::(Zn n)::(AV.func 73 [] [])::AV.undef::AV.undef::AV.undef::(Zi 20)::(Zi 0)::(Zi 20)::AV.undef::(Zi 20)::kX 52) hh (.exit 0) hh (CN 2<|VV (qg 3 false false .i64 20 ((n:Nat):Int))<|BB q1<|ZZ) k!) k!
 obtain ⟨h3,abr,gF,vP,qo,Ao⟩:=aew (d:=d) (n:=n) (op:=op) aN gp hn o! hn3
 have ik:Has h h3:=Has.mU bj Ao hp
 have q4:(decide (20<((n:Nat):Int)))=false:=d!
 have ur5:Ev env (cW (d+5)) Hj ⟨((AV.slice p 0 n n op)::(Zn n)::(AV.func 73 [] [])::AV.undef::AV.undef::AV.undef::(Zi 20)::(Zi 0)::(Zi 20)::AV.undef::(Zi 20)::(Zi 20)::(Zn n)::(AV.bool (decide (20≤((n:Nat):Int))))::AV.undef::AV.undef::AV.undef::AV.undef::AV.undef::AV.undef::AV.undef::AV.undef::AV.undef::(AV.slice p 0 n n op)::(Zi 0)::(Zn n)::(AV.func 73 [] [])::(AV.tuple [])::kX 35),h3,[],.no⟩ (.exit 2) ⟨((AV.slice p 0 n n op)::(Zn n)::(AV.func 73 [] [])::AV.undef::AV.undef::AV.undef::(Zi 20)::(Zi 0)::(Zi 20)::AV.undef::(Zi 20)::(Zi 20)::(Zn n)::(AV.bool (decide (20≤((n:Nat):Int))))::AV.undef::AV.undef::AV.undef::AV.undef::AV.undef::AV.undef::AV.undef::AV.undef::AV.undef::(AV.slice p 0 n n op)::(Zi 0)::(Zn n)::(AV.func 73 [] [])::(AV.tuple [])::(Zi 20)::(Zn n)::(AV.bool (decide (20<((n:Nat):Int))))::kX 32),h3,[],.no⟩:=Ev.to (pk (d+5) Hj ((AV.slice p 0 n n op)::(Zn n)::(AV.func 73 [] [])::AV.undef::AV.undef::AV.undef::(Zi 20)::(Zi 0)::(Zi 20)::AV.undef::(Zi 20)::(Zi 20)::(Zn n)::(AV.bool (decide (20≤((n:Nat):Int))))::AV.undef::AV.undef::AV.undef::AV.undef::AV.undef::AV.undef::AV.undef::AV.undef::AV.undef::(AV.slice p 0 n n op)::(Zi 0)::(Zn n)::(AV.func 73 [] [])::(AV.tuple [])::kX 35) h3 (.exit 2) h3 (CN 2<|VV (bZ 3 false false .i64 20 ((n:Nat):Int))<|BB q4<|ZZ) k!) k!
 have ev:=pk (d+5) xP ((AV.slice p 0 n n op)::(Zn n)::(AV.func 73 [] [])::kX 60) hh .normal h3 (CN 4<|LL (show Ev env (cW (d+5)) (.loop Hh) ⟨((AV.slice p 0 n n op)::(Zn n)::(AV.func 73 [] [])::AV.undef::AV.undef::AV.undef::(Zi 20)::(Zi 0)::(Zi 20)::AV.undef::(Zi 20)::kX 52),hh,[],.no⟩ (.exit 0) ⟨((AV.slice p 0 n n op)::(Zn n)::(AV.func 73 [] [])::AV.undef::AV.undef::AV.undef::(Zi 20)::(Zi 0)::(Zi 20)::AV.undef::(Zi 20)::(Zi 20)::(Zn n)::(AV.bool (decide (20≤((n:Nat):Int))))::kX 49),hh,[],.no⟩ from (Ev.out ur2))<|CN 4<|EE abr<|LL (show Ev env (cW (d+5)) (.loop Hj) ⟨((AV.slice p 0 n n op)::(Zn n)::(AV.func 73 [] [])::AV.undef::AV.undef::AV.undef::(Zi 20)::(Zi 0)::(Zi 20)::AV.undef::(Zi 20)::(Zi 20)::(Zn n)::(AV.bool (decide (20≤((n:Nat):Int))))::AV.undef::AV.undef::AV.undef::AV.undef::AV.undef::AV.undef::AV.undef::AV.undef::AV.undef::(AV.slice p 0 n n op)::(Zi 0)::(Zn n)::(AV.func 73 [] [])::(AV.tuple [])::kX 35),h3,[],.no⟩ (.exit 2) ⟨((AV.slice p 0 n n op)::(Zn n)::(AV.func 73 [] [])::AV.undef::AV.undef::AV.undef::(Zi 20)::(Zi 0)::(Zi 20)::AV.undef::(Zi 20)::(Zi 20)::(Zn n)::(AV.bool (decide (20≤((n:Nat):Int))))::AV.undef::AV.undef::AV.undef::AV.undef::AV.undef::AV.undef::AV.undef::AV.undef::AV.undef::(AV.slice p 0 n n op)::(Zi 0)::(Zn n)::(AV.func 73 [] [])::(AV.tuple [])::(Zi 20)::(Zn n)::(AV.bool (decide (20<((n:Nat):Int))))::kX 32),h3,[],.no⟩ from (Ev.out ur5))<|ZZ) k!
 obtain ⟨hk,e,q⟩:=kG rfl (bx Try.func87 aex k! (.inl rfl) ev k!)
 refine ⟨hk,e,?_⟩
 rcases q with rfl | ⟨rfl,A⟩
 · exact ⟨gF,vP,qo,Ao⟩
 · refine ⟨aN,Nat.le_refl _,?_,fun _ _ _ q=>q⟩
   rw[A _ _ gp] at qo
   rw[gp];exact qo
def JS:Code:=(Try.f72.body).getD .skip
theorem aez:Try.f72.body=some JS:=by kernel_rfl
theorem ZG {d:Nat} {hh:au} {p n:Nat} {op:Bool} {L:List Gate} (aN:Tidy hh) (gp:hh.get p=some (.cells (List.flatMap (aA.c (α:=Gate)) L) 66 false)) (hn:L.length=n) (Ng:n≤19) (hn3:1≤n):
 ∃hk,cW (d+7) (.fn 72) [.slice p 0 n n op,.func 73 [] []] hh= .ret (.tuple []) hk∧Tidy hk∧hh.nx≤hk.nx∧hk.get p=some (.cells (List.flatMap (aA.c (α:=Gate)) (eZ n (n - 1) 1 L)) 66 false)∧Kept p hh hk:=by
 obtain ⟨h,bY,bj,hp,jo,kp,_⟩:=xK aN gp
 have T_p:=aN _ _ gp
 obtain ⟨h1,abt,cq,ahA,aY,ZH⟩:=aey (d:=d) (n:=n) (op:=op) aN gp hn Ng hn3
 have bI:Has h h1:=Has.mU bj ZH hp
 have ev:=pk (d+6) JS ((AV.slice p 0 n n op)::(AV.func 73 [] [])::kX 7) hh .normal h1 (CN 4<|EE abt<|ZZ) k!
 obtain ⟨hk,e,q⟩:=kG rfl (bx Try.func72 aez k! (.inl rfl) ev k!)
 refine ⟨hk,e,?_⟩
 rcases q with rfl | ⟨rfl,A⟩
 · exact ⟨cq,ahA,aY,ZH⟩
 · refine ⟨aN,Nat.le_refl _,?_,fun _ _ _ q=>q⟩
   rw[A _ _ gp] at aY
   rw[gp];exact aY
def DX:Code:=(Try.f75.body).getD .skip
theorem Md:Try.f75.body=some DX:=by kernel_rfl
def bE (a:Span) (b:Span):Span:=(⟨(imax a.aX b.aX),(rX a.aG b.aG)⟩:Span)
theorem CU {d:Nat} {h:au} (a:Span) (b:Span) (h_a:aA.ok h a) (h_b:aA.ok h b) (bY:Tidy h):cW (d+1) (.fn 75) [(AV.agg [(Zi a.aX),(Zi a.aG)]),(AV.agg [(Zi b.aX),(Zi b.aG)])] h= .ret (AV.agg [(Zi (bE a b).aX),(Zi (bE a b).aG)]) h:=by
 obtain ⟨h1,cA,cq,jf,aY,ct⟩:=iQ bY (a_.cells [(Zi a.aX),(Zi a.aG)] 23 false)
 have bI:Has h h1:=ct
 obtain ⟨h2,nv,gG,CP,fW,fJ⟩:=iQ cq (a_.cells [(Zi b.aX),(Zi b.aG)] 23 false)
 have fF:Has h h2:=bI.trans fJ
 obtain ⟨h3,xQ,gF,Me,qo,fG⟩:=iQ gG (a_.cells [(Zi 0),(Zi 0)] 23 false)
 have ik:Has h h3:=fF.trans fG
 obtain ⟨h4,abu,qp,PK,zm,E2⟩:=xg (t:=23) (n:=2) (i:=h2.nx) (L:=[(Zi (imax a.aX b.aX)),(Zi (rX a.aG b.aG))]) gF qo k! rfl rfl (by simp only[AV.cells,List.all_cons,List.all_nil,Bool.and_true,Bool.and_self,fB,dZ,fC,fD,dh,iT,iU,iV,iW,iX,fE])
 have qq:Has h h4:=Has.cj ik E2 bY o!
 have e:bE a b=(⟨(imax a.aX b.aX),(rX a.aG b.aG)⟩:Span):=by simp only[bE,ao,ai]
 rw[e]
 exact aC rfl (mL (a:=4) (t:=23) (i:=h2.nx) Try.func75 Md rfl (.inr rfl) (pk (d) _ _ h _ h4 (NN cA (fun i=>(Pt i))<|NN nv (fun i=>(Pt i))<|NN xQ (fun i=>(Pt i))<|CC<|MM (aM 3 0 (Zi a.aX) (fG _ _ (fJ _ _ aY)) k!)<|CC<|MM (aM 3 0 (Zi b.aX) (fG _ _ fW) k!)<|CN 2<|MM (aM 3 1 (Zi a.aG) (fG _ _ (fJ _ _ aY)) k!)<|CC<|MM (aM 3 1 (Zi b.aG) (fG _ _ fW) k!)<|CN 2<|SS abu<|ZZ) k!) k! (qe zm k!)) qq rfl
theorem iB {p:Prop} (h:p:=by first | omega | (simp only[List.length_set,List.length_append,List.length_cons,List.length_nil];omega)):p:=h
theorem CV {p:Prop} (h:p:=by first | omega | (simp only[List.length_set];omega)):p:=h
def xR:Code:=(Try.f47.body).getD .skip
theorem aeA:Try.f47.body=some xR:=by kernel_rfl
def abv:Code:=(cC xR).getD 0 .skip
def abw:Code:=(cC xR).getD 1 .skip
def iZ (q:ay) (n:Nat):Nat→Nat→List Gate→Option (List Gate)
 | 0,_,ak=>some ak
 | d_+1,i0,ak=>(bif (decide (((ak.set i0 (⟨(ak.g i0).time,(bE (⟨(ak.g i0).ax,(ak.g i0).ar⟩:Span) (⟨(IntKind.i64.wrap ((ak.g (i0 - 1)).ax -(IntKind.i64.wrap (q.aK*(IntKind.i64.wrap ((ak.g i0).time -((ak.g (i0 - 1)).time))))))),(IntKind.i64.wrap (((ak.g (i0 - 1)).ar)+(IntKind.i64.wrap (q.aI*(IntKind.i64.wrap ((ak.g i0).time -((ak.g (i0 - 1)).time)))))))⟩:Span)).aX,(bE (⟨(ak.g i0).ax,(ak.g i0).ar⟩:Span) (⟨(IntKind.i64.wrap ((ak.g (i0 - 1)).ax -(IntKind.i64.wrap (q.aK*(IntKind.i64.wrap ((ak.g i0).time -((ak.g (i0 - 1)).time))))))),(IntKind.i64.wrap (((ak.g (i0 - 1)).ar)+(IntKind.i64.wrap (q.aI*(IntKind.i64.wrap ((ak.g i0).time -((ak.g (i0 - 1)).time)))))))⟩:Span)).aG⟩:Gate)).g i0).ar<(((ak.set i0 (⟨(ak.g i0).time,(bE (⟨(ak.g i0).ax,(ak.g i0).ar⟩:Span) (⟨(IntKind.i64.wrap ((ak.g (i0 - 1)).ax -(IntKind.i64.wrap (q.aK*(IntKind.i64.wrap ((ak.g i0).time -((ak.g (i0 - 1)).time))))))),(IntKind.i64.wrap (((ak.g (i0 - 1)).ar)+(IntKind.i64.wrap (q.aI*(IntKind.i64.wrap ((ak.g i0).time -((ak.g (i0 - 1)).time)))))))⟩:Span)).aX,(bE (⟨(ak.g i0).ax,(ak.g i0).ar⟩:Span) (⟨(IntKind.i64.wrap ((ak.g (i0 - 1)).ax -(IntKind.i64.wrap (q.aK*(IntKind.i64.wrap ((ak.g i0).time -((ak.g (i0 - 1)).time))))))),(IntKind.i64.wrap (((ak.g (i0 - 1)).ar)+(IntKind.i64.wrap (q.aI*(IntKind.i64.wrap ((ak.g i0).time -((ak.g (i0 - 1)).time)))))))⟩:Span)).aG⟩:Gate)).g i0).ax))) then none else iZ q n d_ (i0+1) (ak.set i0 (⟨(ak.g i0).time,(bE (⟨(ak.g i0).ax,(ak.g i0).ar⟩:Span) (⟨(IntKind.i64.wrap ((ak.g (i0 - 1)).ax -(IntKind.i64.wrap (q.aK*(IntKind.i64.wrap ((ak.g i0).time -((ak.g (i0 - 1)).time))))))),(IntKind.i64.wrap (((ak.g (i0 - 1)).ar)+(IntKind.i64.wrap (q.aI*(IntKind.i64.wrap ((ak.g i0).time -((ak.g (i0 - 1)).time)))))))⟩:Span)).aX,(bE (⟨(ak.g i0).ax,(ak.g i0).ar⟩:Span) (⟨(IntKind.i64.wrap ((ak.g (i0 - 1)).ax -(IntKind.i64.wrap (q.aK*(IntKind.i64.wrap ((ak.g i0).time -((ak.g (i0 - 1)).time))))))),(IntKind.i64.wrap (((ak.g (i0 - 1)).ar)+(IntKind.i64.wrap (q.aI*(IntKind.i64.wrap ((ak.g i0).time -((ak.g (i0 - 1)).time)))))))⟩:Span)).aG⟩:Gate)))
theorem Hk {d:Nat} {h:au} (n:Nat) (op:Bool) (q:ay) (cY:Nat) (dj:Nat) (cD:q.name.length<2^60) (eX:aZ h q.aB q.af) (oI:aA.ok h q) (bY:Tidy h) (tA:h.nx≤cY) (zn:h.get dj=none) (ny:dj≠cY):∀(k_ i_:Nat) (ak:List Gate) (_:i_+k_=n) (_:(List.length ak=n∧n≤20∧1≤i_)) (x:Nat→AV) (hh:au) (aN:Tidy hh) (bj:Has h hh) (jo:h.nx≤hh.nx) (du:hh.get cY=some (a_.cells [(AV.str q.name),(Zi q.aj),(Zi q.ah),(Zi q.aI),(Zi q.aK),(Zi q.bad),q.aB] 26 false)) (gH:hh.get dj=some (a_.cells (List.flatMap (aA.c (α:=Gate)) ak) 66 false)),s9 (σ:=List Gate) (ζ:=Unit) (cW (d+7)) abv ⟨((x 0)::(x 1)::(Pt cY)::(x 3)::(x 4)::(AV.slice dj 0 n n op)::(Zn i_)::rx x 7 121 []),hh,[],.no⟩ (.exit 0) hh (fun r z y=>((y 0)::(y 1)::(Pt cY)::(y 3)::(y 4)::(AV.slice dj 0 n n op)::rx y 6 122 [])) (fun r z hk=>Has h hk∧hk.get cY=some (a_.cells [(AV.str q.name),(Zi q.aj),(Zi q.ah),(Zi q.aI),(Zi q.aK),(Zi q.bad),q.aB] 26 false)∧hk.get dj=some (a_.cells (List.flatMap (aA.c (α:=Gate)) r) 66 false)∧(List.length r=n∧n≤20∧1≤n)) (fun y=>((y 0)::(y 1)::(Pt cY)::(y 3)::AV.aQ::(AV.slice dj 0 n n op)::rx y 6 122 [])) (fun hk=>Has h hk) (iZ q n k_ i_ ak)
 | 0,i0,ak,kY,zj,x,hh,aN,bj,jo,du,gH=>by
   have rk:=eX.small
   have ze:=aN _ _ du
   have TH:=aN _ _ gH
   have q1:(decide (((i0:Nat):Int)<((n:Nat):Int)))=false:=d!
   exact s9.out ak () rfl (pk (d+7) _ _ hh _ hh (CN 3<|VV (bZ 3 false false .i64 ((i0:Nat):Int) ((n:Nat):Int))<|BB q1<|ZZ) k!) aN o! ⟨bj,du,gH,(show (List.length ak=n∧n≤20∧1≤n) from CV)⟩ k!
 | d_+1,i0,ak,kY,zj,x,hh,aN,bj,jo,du,gH=>by
   have rk:=eX.small
   have ze:=aN _ _ du
   have TH:=aN _ _ gH
   have q1:(decide (((i0:Nat):Int)<((n:Nat):Int)))=true:=d!
   have u2:=GS 3 false true i0 1 o! o!
   have DP:dr env (some (.slice 66)) (some (AV.slice dj 0 n n op)) (some (Zn (i0 - 1)))=some (AV.ptr dj (0+(i0 - 1)*3)):=cx (size:=3) k! (show (i0 - 1)<n by omega)
   have ld4:bG env hh 23 (AV.ptr dj ((0+(i0 - 1)*3)+1))=some (AV.agg [(Zi (ak.g (i0 - 1)).ax),(Zi (ak.g (i0 - 1)).ar)]):=mT (i:=(i0 - 1)) (j:=1) (n:=2) gH rfl iB k! k! (by decide) rfl
   have ZE:dr env (some (.slice 66)) (some (AV.slice dj 0 n n op)) (some (Zn i0))=some (AV.ptr dj (0+i0*3)):=cx (size:=3) k! (show i0<n by omega)
   have Af:bG env hh 3 (AV.ptr dj ((0+i0*3)+0))=some (Zi (ak.g i0).time):=hX (i:=i0) (j:=0) gH rfl iB k! rfl
   have u7:=GS 3 false true i0 1 o! o!
   have Wd:dr env (some (.slice 66)) (some (AV.slice dj 0 n n op)) (some (Zn (i0 - 1)))=some (AV.ptr dj (0+(i0 - 1)*3)):=cx (size:=3) k! (show (i0 - 1)<n by omega)
   have XR:bG env hh 3 (AV.ptr dj ((0+(i0 - 1)*3)+0))=some (Zi (ak.g (i0 - 1)).time):=hX (i:=(i0 - 1)) (j:=0) gH rfl iB k! rfl
   obtain ⟨rZ,TI,mP,aeB,JT,gz⟩:=iQ aN (a_.cells [(Zi 0),(Zi 0)] 23 false)
   have lW:Has h rZ:=bj.trans gz
   have CW:Has hh rZ:=gz
   obtain ⟨DY,TJ,CX,ZJ,tC,fH⟩:=xg (t:=23) (n:=2) (i:=hh.nx) (L:=[(Zi (ak.g (i0 - 1)).ax),(Zi (ak.g (i0 - 1)).ar)]) mP JT k! rfl rfl (by simp only[AV.cells,List.all_cons,List.all_nil,Bool.and_true,Bool.and_self,fB,dZ,fC,fD,dh,iT,iU,iV,iW,iX,fE])
   have JU:Has h DY:=Has.cj lW fH bY o!
   have JV:Has hh DY:=Has.cj CW fH aN o!
   have Tx:AV.same 20 (AV.agg [(Zi (ak.g (i0 - 1)).ax),(Zi (ak.g (i0 - 1)).ar)]) (AV.agg [(Zi (ak.g (i0 - 1)).ax),(Zi (ak.g (i0 - 1)).ar)])=true:=ie 18 (pR (fun n=>aU n _ _) (pR (fun n=>aU n _ _) Pq))
   have TG:dr env (some (.slice 66)) (some (AV.slice dj 0 n n op)) (some (Zn i0))=some (AV.ptr dj (0+i0*3)):=cx (size:=3) k! (show i0<n by omega)
   have vK:bG env DY 23 (AV.ptr dj ((0+i0*3)+1))=some (AV.agg [(Zi (ak.g i0).ax),(Zi (ak.g i0).ar)]):=mT (i:=i0) (j:=1) (n:=2) (fH _ _ o! (gz _ _ gH)) rfl iB k! k! (by decide) rfl
   have k15:=CU (d:=d+6) (⟨(ak.g i0).ax,(ak.g i0).ar⟩:Span) (⟨(IntKind.i64.wrap ((ak.g (i0 - 1)).ax -(IntKind.i64.wrap (q.aK*(IntKind.i64.wrap ((ak.g i0).time -((ak.g (i0 - 1)).time))))))),(IntKind.i64.wrap (((ak.g (i0 - 1)).ar)+(IntKind.i64.wrap (q.aI*(IntKind.i64.wrap ((ak.g i0).time -((ak.g (i0 - 1)).time)))))))⟩:Span) trivial trivial CX
   have abx:dr env (some (.slice 66)) (some (AV.slice dj 0 n n op)) (some (Zn i0))=some (AV.ptr dj (0+i0*3)):=cx (size:=3) k! (show i0<n by omega)
   obtain ⟨rL,Mf,tD,aeC,CY,CZ⟩:=xM (i:=i0) (j:=1) (t:=23) (n:=2) (v:=(AV.agg [(Zi (bE (⟨(ak.g i0).ax,(ak.g i0).ar⟩:Span) (⟨(IntKind.i64.wrap ((ak.g (i0 - 1)).ax -(IntKind.i64.wrap (q.aK*(IntKind.i64.wrap ((ak.g i0).time -((ak.g (i0 - 1)).time))))))),(IntKind.i64.wrap (((ak.g (i0 - 1)).ar)+(IntKind.i64.wrap (q.aI*(IntKind.i64.wrap ((ak.g i0).time -((ak.g (i0 - 1)).time)))))))⟩:Span)).aX),(Zi (bE (⟨(ak.g i0).ax,(ak.g i0).ar⟩:Span) (⟨(IntKind.i64.wrap ((ak.g (i0 - 1)).ax -(IntKind.i64.wrap (q.aK*(IntKind.i64.wrap ((ak.g i0).time -((ak.g (i0 - 1)).time))))))),(IntKind.i64.wrap (((ak.g (i0 - 1)).ar)+(IntKind.i64.wrap (q.aI*(IntKind.i64.wrap ((ak.g i0).time -((ak.g (i0 - 1)).time)))))))⟩:Span)).aG)])) (x:=(⟨(ak.g i0).time,(bE (⟨(ak.g i0).ax,(ak.g i0).ar⟩:Span) (⟨(IntKind.i64.wrap ((ak.g (i0 - 1)).ax -(IntKind.i64.wrap (q.aK*(IntKind.i64.wrap ((ak.g i0).time -((ak.g (i0 - 1)).time))))))),(IntKind.i64.wrap (((ak.g (i0 - 1)).ar)+(IntKind.i64.wrap (q.aI*(IntKind.i64.wrap ((ak.g i0).time -((ak.g (i0 - 1)).time)))))))⟩:Span)).aX,(bE (⟨(ak.g i0).ax,(ak.g i0).ar⟩:Span) (⟨(IntKind.i64.wrap ((ak.g (i0 - 1)).ax -(IntKind.i64.wrap (q.aK*(IntKind.i64.wrap ((ak.g i0).time -((ak.g (i0 - 1)).time))))))),(IntKind.i64.wrap (((ak.g (i0 - 1)).ar)+(IntKind.i64.wrap (q.aI*(IntKind.i64.wrap ((ak.g i0).time -((ak.g (i0 - 1)).time)))))))⟩:Span)).aG⟩:Gate)) CX (fH _ _ o! (gz _ _ gH)) rfl iB k! rfl (by decide) (by simp [AV.cells,AV.scalar]) rfl
   have TL:eF env DY 23 (AV.ptr dj ((0+i0*3)+1)) (AV.agg [(Zi (bE (⟨(ak.g i0).ax,(ak.g i0).ar⟩:Span) (⟨(IntKind.i64.wrap ((ak.g (i0 - 1)).ax -(IntKind.i64.wrap (q.aK*(IntKind.i64.wrap ((ak.g i0).time -((ak.g (i0 - 1)).time))))))),(IntKind.i64.wrap (((ak.g (i0 - 1)).ar)+(IntKind.i64.wrap (q.aI*(IntKind.i64.wrap ((ak.g i0).time -((ak.g (i0 - 1)).time)))))))⟩:Span)).aX),(Zi (bE (⟨(ak.g i0).ax,(ak.g i0).ar⟩:Span) (⟨(IntKind.i64.wrap ((ak.g (i0 - 1)).ax -(IntKind.i64.wrap (q.aK*(IntKind.i64.wrap ((ak.g i0).time -((ak.g (i0 - 1)).time))))))),(IntKind.i64.wrap (((ak.g (i0 - 1)).ar)+(IntKind.i64.wrap (q.aI*(IntKind.i64.wrap ((ak.g i0).time -((ak.g (i0 - 1)).time)))))))⟩:Span)).aG)])=some rL:=Mf
   have rM:Has h rL:=Has.mU JU CZ zn
   have c18:AV.same 20 (AV.agg [(Zi (ak.g i0).ax),(Zi (ak.g i0).ar)]) (AV.agg [(Zi (ak.g i0).ax),(Zi (ak.g i0).ar)])=true:=ie 18 (pR (fun n=>aU n _ _) (pR (fun n=>aU n _ _) Pq))
   have abn:dr env (some (.slice 66)) (some (AV.slice dj 0 n n op)) (some (Zn i0))=some (AV.ptr dj (0+i0*3)):=cx (size:=3) k! (show i0<n by omega)
   have ahD:bG env rL 3 (AV.ptr dj (((0+i0*3)+1)+0))=some (Zi ((ak.set i0 (⟨(ak.g i0).time,(bE (⟨(ak.g i0).ax,(ak.g i0).ar⟩:Span) (⟨(IntKind.i64.wrap ((ak.g (i0 - 1)).ax -(IntKind.i64.wrap (q.aK*(IntKind.i64.wrap ((ak.g i0).time -((ak.g (i0 - 1)).time))))))),(IntKind.i64.wrap (((ak.g (i0 - 1)).ar)+(IntKind.i64.wrap (q.aI*(IntKind.i64.wrap ((ak.g i0).time -((ak.g (i0 - 1)).time)))))))⟩:Span)).aX,(bE (⟨(ak.g i0).ax,(ak.g i0).ar⟩:Span) (⟨(IntKind.i64.wrap ((ak.g (i0 - 1)).ax -(IntKind.i64.wrap (q.aK*(IntKind.i64.wrap ((ak.g i0).time -((ak.g (i0 - 1)).time))))))),(IntKind.i64.wrap (((ak.g (i0 - 1)).ar)+(IntKind.i64.wrap (q.aI*(IntKind.i64.wrap ((ak.g i0).time -((ak.g (i0 - 1)).time)))))))⟩:Span)).aG⟩:Gate)).g i0).ax):=hX (i:=i0) (j:=1) CY rfl iB k! rfl
   have aby:dr env (some (.slice 66)) (some (AV.slice dj 0 n n op)) (some (Zn i0))=some (AV.ptr dj (0+i0*3)):=cx (size:=3) k! (show i0<n by omega)
   have abz:bG env rL 3 (AV.ptr dj (((0+i0*3)+1)+1))=some (Zi ((ak.set i0 (⟨(ak.g i0).time,(bE (⟨(ak.g i0).ax,(ak.g i0).ar⟩:Span) (⟨(IntKind.i64.wrap ((ak.g (i0 - 1)).ax -(IntKind.i64.wrap (q.aK*(IntKind.i64.wrap ((ak.g i0).time -((ak.g (i0 - 1)).time))))))),(IntKind.i64.wrap (((ak.g (i0 - 1)).ar)+(IntKind.i64.wrap (q.aI*(IntKind.i64.wrap ((ak.g i0).time -((ak.g (i0 - 1)).time)))))))⟩:Span)).aX,(bE (⟨(ak.g i0).ax,(ak.g i0).ar⟩:Span) (⟨(IntKind.i64.wrap ((ak.g (i0 - 1)).ax -(IntKind.i64.wrap (q.aK*(IntKind.i64.wrap ((ak.g i0).time -((ak.g (i0 - 1)).time))))))),(IntKind.i64.wrap (((ak.g (i0 - 1)).ar)+(IntKind.i64.wrap (q.aI*(IntKind.i64.wrap ((ak.g i0).time -((ak.g (i0 - 1)).time)))))))⟩:Span)).aG⟩:Gate)).g i0).ar):=hX (i:=i0) (j:=2) CY rfl iB k! rfl
   have za:=fun {al ps} (k:Pk al _ ps)=>(CN 3<|VV (bZ 3 false false .i64 ((i0:Nat):Int) ((n:Nat):Int))<|BB q1<|CN 2<|VV u2<|VV DP<|CC<|MM ld4<|CN 2<|VV ZE<|CC<|MM Af<|CN 2<|VV u7<|VV Wd<|CC<|MM XR<|CC<|NN TI (fun i=>(Pt i))<|SS TJ<|CC<|HH (show bG env rZ 23 (AV.ptr dj ((0+(i0 - 1)*3)+1))=some (AV.agg [(Zi (ak.g (i0 - 1)).ax),(Zi (ak.g (i0 - 1)).ar)]) from (mT (i:=(i0 - 1)) (j:=1) (n:=2) (gz _ _ gH) rfl iB k! k! (by decide) rfl))<|HH Tx<|HH (show bG env rZ 3 (AV.ptr dj ((0+i0*3)+0))=some (Zi (ak.g i0).time) from (hX (i:=i0) (j:=0) (gz _ _ gH) rfl iB k! rfl))<|HH (show AV.same 20 (Zi (ak.g i0).time) (Zi (ak.g i0).time)=true from aU 19 _ _)<|HH (show bG env DY 3 (AV.ptr dj ((0+i0*3)+0))=some (Zi (ak.g i0).time) from (hX (i:=i0) (j:=0) (fH _ _ o! (gz _ _ gH)) rfl iB k! rfl))<|HH (show AV.same 20 (Zi (ak.g i0).time) (Zi (ak.g i0).time)=true from aU 19 _ _)<|HH (show bG env rZ 3 (AV.ptr dj ((0+(i0 - 1)*3)+0))=some (Zi (ak.g (i0 - 1)).time) from (hX (i:=(i0 - 1)) (j:=0) (gz _ _ gH) rfl iB k! rfl))<|HH (show AV.same 20 (Zi (ak.g (i0 - 1)).time) (Zi (ak.g (i0 - 1)).time)=true from aU 19 _ _)<|HH (show bG env DY 3 (AV.ptr dj ((0+(i0 - 1)*3)+0))=some (Zi (ak.g (i0 - 1)).time) from (hX (i:=(i0 - 1)) (j:=0) (fH _ _ o! (gz _ _ gH)) rfl iB k! rfl))<|HH (show AV.same 20 (Zi (ak.g (i0 - 1)).time) (Zi (ak.g (i0 - 1)).time)=true from aU 19 _ _)<|HH (show ∃o,rZ.get hh.nx=some o∧a_.same o (a_.cells [(Zi 0),(Zi 0)] 23 false)=true from ⟨_,JT,by simp [a_.same,cL,AV.same]⟩)<|CN 4<|VV TG<|CC<|MM vK<|CC<|MM (aM 3 0 (Zi (ak.g (i0 - 1)).ax) tC k!)<|CC<|MM (aM 3 4 (Zi q.aK) (fH _ _ o! (gz _ _ du)) k!)<|CN 4<|MM (aM 3 1 (Zi (ak.g (i0 - 1)).ar) tC k!)<|CC<|MM (aM 3 3 (Zi q.aI) (fH _ _ o! (gz _ _ du)) k!)<|CN 4<|EE k15<|VV abx<|CC<|SS TL<|HH (show bG env DY 23 (AV.ptr dj ((0+i0*3)+1))=some (AV.agg [(Zi (ak.g i0).ax),(Zi (ak.g i0).ar)]) from (mT (i:=i0) (j:=1) (n:=2) (fH _ _ o! (gz _ _ gH)) rfl iB k! k! (by decide) rfl))<|HH c18<|HH (aM 3 0 (Zi (ak.g (i0 - 1)).ax) tC k!)<|HH (show AV.same 20 (Zi (ak.g (i0 - 1)).ax) (Zi (ak.g (i0 - 1)).ax)=true from aU 19 _ _)<|HH (aM 3 4 (Zi q.aK) (fH _ _ o! (gz _ _ du)) k!)<|HH (show AV.same 20 (Zi q.aK) (Zi q.aK)=true from aU 19 _ _)<|HH (aM 3 1 (Zi (ak.g (i0 - 1)).ar) tC k!)<|HH (show AV.same 20 (Zi (ak.g (i0 - 1)).ar) (Zi (ak.g (i0 - 1)).ar)=true from aU 19 _ _)<|HH (aM 3 3 (Zi q.aI) (fH _ _ o! (gz _ _ du)) k!)<|HH (show AV.same 20 (Zi q.aI) (Zi q.aI)=true from aU 19 _ _)<|CN 2<|VV abn<|CN 2<|MM ahD<|CN 2<|VV aby<|CN 2<|MM abz<|VV (cg 3 false false .i64 ((ak.set i0 (⟨(ak.g i0).time,(bE (⟨(ak.g i0).ax,(ak.g i0).ar⟩:Span) (⟨(IntKind.i64.wrap ((ak.g (i0 - 1)).ax -(IntKind.i64.wrap (q.aK*(IntKind.i64.wrap ((ak.g i0).time -((ak.g (i0 - 1)).time))))))),(IntKind.i64.wrap (((ak.g (i0 - 1)).ar)+(IntKind.i64.wrap (q.aI*(IntKind.i64.wrap ((ak.g i0).time -((ak.g (i0 - 1)).time)))))))⟩:Span)).aX,(bE (⟨(ak.g i0).ax,(ak.g i0).ar⟩:Span) (⟨(IntKind.i64.wrap ((ak.g (i0 - 1)).ax -(IntKind.i64.wrap (q.aK*(IntKind.i64.wrap ((ak.g i0).time -((ak.g (i0 - 1)).time))))))),(IntKind.i64.wrap (((ak.g (i0 - 1)).ar)+(IntKind.i64.wrap (q.aI*(IntKind.i64.wrap ((ak.g i0).time -((ak.g (i0 - 1)).time)))))))⟩:Span)).aG⟩:Gate)).g i0).ax ((ak.set i0 (⟨(ak.g i0).time,(bE (⟨(ak.g i0).ax,(ak.g i0).ar⟩:Span) (⟨(IntKind.i64.wrap ((ak.g (i0 - 1)).ax -(IntKind.i64.wrap (q.aK*(IntKind.i64.wrap ((ak.g i0).time -((ak.g (i0 - 1)).time))))))),(IntKind.i64.wrap (((ak.g (i0 - 1)).ar)+(IntKind.i64.wrap (q.aI*(IntKind.i64.wrap ((ak.g i0).time -((ak.g (i0 - 1)).time)))))))⟩:Span)).aX,(bE (⟨(ak.g i0).ax,(ak.g i0).ar⟩:Span) (⟨(IntKind.i64.wrap ((ak.g (i0 - 1)).ax -(IntKind.i64.wrap (q.aK*(IntKind.i64.wrap ((ak.g i0).time -((ak.g (i0 - 1)).time))))))),(IntKind.i64.wrap (((ak.g (i0 - 1)).ar)+(IntKind.i64.wrap (q.aI*(IntKind.i64.wrap ((ak.g i0).time -((ak.g (i0 - 1)).time)))))))⟩:Span)).aG⟩:Gate)).g i0).ar)<|HH (show bG env rL 3 (AV.ptr dj (((0+i0*3)+1)+0))=some (Zi ((ak.set i0 (⟨(ak.g i0).time,(bE (⟨(ak.g i0).ax,(ak.g i0).ar⟩:Span) (⟨(IntKind.i64.wrap ((ak.g (i0 - 1)).ax -(IntKind.i64.wrap (q.aK*(IntKind.i64.wrap ((ak.g i0).time -((ak.g (i0 - 1)).time))))))),(IntKind.i64.wrap (((ak.g (i0 - 1)).ar)+(IntKind.i64.wrap (q.aI*(IntKind.i64.wrap ((ak.g i0).time -((ak.g (i0 - 1)).time)))))))⟩:Span)).aX,(bE (⟨(ak.g i0).ax,(ak.g i0).ar⟩:Span) (⟨(IntKind.i64.wrap ((ak.g (i0 - 1)).ax -(IntKind.i64.wrap (q.aK*(IntKind.i64.wrap ((ak.g i0).time -((ak.g (i0 - 1)).time))))))),(IntKind.i64.wrap (((ak.g (i0 - 1)).ar)+(IntKind.i64.wrap (q.aI*(IntKind.i64.wrap ((ak.g i0).time -((ak.g (i0 - 1)).time)))))))⟩:Span)).aG⟩:Gate)).g i0).ax) from (hX (i:=i0) (j:=1) CY rfl iB k! rfl))<|HH (show AV.same 20 (Zi ((ak.set i0 (⟨(ak.g i0).time,(bE (⟨(ak.g i0).ax,(ak.g i0).ar⟩:Span) (⟨(IntKind.i64.wrap ((ak.g (i0 - 1)).ax -(IntKind.i64.wrap (q.aK*(IntKind.i64.wrap ((ak.g i0).time -((ak.g (i0 - 1)).time))))))),(IntKind.i64.wrap (((ak.g (i0 - 1)).ar)+(IntKind.i64.wrap (q.aI*(IntKind.i64.wrap ((ak.g i0).time -((ak.g (i0 - 1)).time)))))))⟩:Span)).aX,(bE (⟨(ak.g i0).ax,(ak.g i0).ar⟩:Span) (⟨(IntKind.i64.wrap ((ak.g (i0 - 1)).ax -(IntKind.i64.wrap (q.aK*(IntKind.i64.wrap ((ak.g i0).time -((ak.g (i0 - 1)).time))))))),(IntKind.i64.wrap (((ak.g (i0 - 1)).ar)+(IntKind.i64.wrap (q.aI*(IntKind.i64.wrap ((ak.g i0).time -((ak.g (i0 - 1)).time)))))))⟩:Span)).aG⟩:Gate)).g i0).ax) (Zi ((ak.set i0 (⟨(ak.g i0).time,(bE (⟨(ak.g i0).ax,(ak.g i0).ar⟩:Span) (⟨(IntKind.i64.wrap ((ak.g (i0 - 1)).ax -(IntKind.i64.wrap (q.aK*(IntKind.i64.wrap ((ak.g i0).time -((ak.g (i0 - 1)).time))))))),(IntKind.i64.wrap (((ak.g (i0 - 1)).ar)+(IntKind.i64.wrap (q.aI*(IntKind.i64.wrap ((ak.g i0).time -((ak.g (i0 - 1)).time)))))))⟩:Span)).aX,(bE (⟨(ak.g i0).ax,(ak.g i0).ar⟩:Span) (⟨(IntKind.i64.wrap ((ak.g (i0 - 1)).ax -(IntKind.i64.wrap (q.aK*(IntKind.i64.wrap ((ak.g i0).time -((ak.g (i0 - 1)).time))))))),(IntKind.i64.wrap (((ak.g (i0 - 1)).ar)+(IntKind.i64.wrap (q.aI*(IntKind.i64.wrap ((ak.g i0).time -((ak.g (i0 - 1)).time)))))))⟩:Span)).aG⟩:Gate)).g i0).ax)=true from aU 19 _ _)<|HH (show bG env rL 3 (AV.ptr dj (((0+i0*3)+1)+1))=some (Zi ((ak.set i0 (⟨(ak.g i0).time,(bE (⟨(ak.g i0).ax,(ak.g i0).ar⟩:Span) (⟨(IntKind.i64.wrap ((ak.g (i0 - 1)).ax -(IntKind.i64.wrap (q.aK*(IntKind.i64.wrap ((ak.g i0).time -((ak.g (i0 - 1)).time))))))),(IntKind.i64.wrap (((ak.g (i0 - 1)).ar)+(IntKind.i64.wrap (q.aI*(IntKind.i64.wrap ((ak.g i0).time -((ak.g (i0 - 1)).time)))))))⟩:Span)).aX,(bE (⟨(ak.g i0).ax,(ak.g i0).ar⟩:Span) (⟨(IntKind.i64.wrap ((ak.g (i0 - 1)).ax -(IntKind.i64.wrap (q.aK*(IntKind.i64.wrap ((ak.g i0).time -((ak.g (i0 - 1)).time))))))),(IntKind.i64.wrap (((ak.g (i0 - 1)).ar)+(IntKind.i64.wrap (q.aI*(IntKind.i64.wrap ((ak.g i0).time -((ak.g (i0 - 1)).time)))))))⟩:Span)).aG⟩:Gate)).g i0).ar) from (hX (i:=i0) (j:=2) CY rfl iB k! rfl))<|HH (show AV.same 20 (Zi ((ak.set i0 (⟨(ak.g i0).time,(bE (⟨(ak.g i0).ax,(ak.g i0).ar⟩:Span) (⟨(IntKind.i64.wrap ((ak.g (i0 - 1)).ax -(IntKind.i64.wrap (q.aK*(IntKind.i64.wrap ((ak.g i0).time -((ak.g (i0 - 1)).time))))))),(IntKind.i64.wrap (((ak.g (i0 - 1)).ar)+(IntKind.i64.wrap (q.aI*(IntKind.i64.wrap ((ak.g i0).time -((ak.g (i0 - 1)).time)))))))⟩:Span)).aX,(bE (⟨(ak.g i0).ax,(ak.g i0).ar⟩:Span) (⟨(IntKind.i64.wrap ((ak.g (i0 - 1)).ax -(IntKind.i64.wrap (q.aK*(IntKind.i64.wrap ((ak.g i0).time -((ak.g (i0 - 1)).time))))))),(IntKind.i64.wrap (((ak.g (i0 - 1)).ar)+(IntKind.i64.wrap (q.aI*(IntKind.i64.wrap ((ak.g i0).time -((ak.g (i0 - 1)).time)))))))⟩:Span)).aG⟩:Gate)).g i0).ar) (Zi ((ak.set i0 (⟨(ak.g i0).time,(bE (⟨(ak.g i0).ax,(ak.g i0).ar⟩:Span) (⟨(IntKind.i64.wrap ((ak.g (i0 - 1)).ax -(IntKind.i64.wrap (q.aK*(IntKind.i64.wrap ((ak.g i0).time -((ak.g (i0 - 1)).time))))))),(IntKind.i64.wrap (((ak.g (i0 - 1)).ar)+(IntKind.i64.wrap (q.aI*(IntKind.i64.wrap ((ak.g i0).time -((ak.g (i0 - 1)).time)))))))⟩:Span)).aX,(bE (⟨(ak.g i0).ax,(ak.g i0).ar⟩:Span) (⟨(IntKind.i64.wrap ((ak.g (i0 - 1)).ax -(IntKind.i64.wrap (q.aK*(IntKind.i64.wrap ((ak.g i0).time -((ak.g (i0 - 1)).time))))))),(IntKind.i64.wrap (((ak.g (i0 - 1)).ar)+(IntKind.i64.wrap (q.aI*(IntKind.i64.wrap ((ak.g i0).time -((ak.g (i0 - 1)).time)))))))⟩:Span)).aG⟩:Gate)).g i0).ar)=true from aU 19 _ _)<|k:Pk _ [] ps)
   rcases Bool.eq_false_or_eq_true (decide (((ak.set i0 (⟨(ak.g i0).time,(bE (⟨(ak.g i0).ax,(ak.g i0).ar⟩:Span) (⟨(IntKind.i64.wrap ((ak.g (i0 - 1)).ax -(IntKind.i64.wrap (q.aK*(IntKind.i64.wrap ((ak.g i0).time -((ak.g (i0 - 1)).time))))))),(IntKind.i64.wrap (((ak.g (i0 - 1)).ar)+(IntKind.i64.wrap (q.aI*(IntKind.i64.wrap ((ak.g i0).time -((ak.g (i0 - 1)).time)))))))⟩:Span)).aX,(bE (⟨(ak.g i0).ax,(ak.g i0).ar⟩:Span) (⟨(IntKind.i64.wrap ((ak.g (i0 - 1)).ax -(IntKind.i64.wrap (q.aK*(IntKind.i64.wrap ((ak.g i0).time -((ak.g (i0 - 1)).time))))))),(IntKind.i64.wrap (((ak.g (i0 - 1)).ar)+(IntKind.i64.wrap (q.aI*(IntKind.i64.wrap ((ak.g i0).time -((ak.g (i0 - 1)).time)))))))⟩:Span)).aG⟩:Gate)).g i0).ar<(((ak.set i0 (⟨(ak.g i0).time,(bE (⟨(ak.g i0).ax,(ak.g i0).ar⟩:Span) (⟨(IntKind.i64.wrap ((ak.g (i0 - 1)).ax -(IntKind.i64.wrap (q.aK*(IntKind.i64.wrap ((ak.g i0).time -((ak.g (i0 - 1)).time))))))),(IntKind.i64.wrap (((ak.g (i0 - 1)).ar)+(IntKind.i64.wrap (q.aI*(IntKind.i64.wrap ((ak.g i0).time -((ak.g (i0 - 1)).time)))))))⟩:Span)).aX,(bE (⟨(ak.g i0).ax,(ak.g i0).ar⟩:Span) (⟨(IntKind.i64.wrap ((ak.g (i0 - 1)).ax -(IntKind.i64.wrap (q.aK*(IntKind.i64.wrap ((ak.g i0).time -((ak.g (i0 - 1)).time))))))),(IntKind.i64.wrap (((ak.g (i0 - 1)).ar)+(IntKind.i64.wrap (q.aI*(IntKind.i64.wrap ((ak.g i0).time -((ak.g (i0 - 1)).time)))))))⟩:Span)).aG⟩:Gate)).g i0).ax))) with f1 | f1
   · have jg:=of_decide_eq_true f1
     exact s9.ret (by simp only[iZ,f1,ao,ai]) (pk (d+7) _ _ hh _ rL (za<|BC f1<|ZZ) k!) tD o! rM k!
   · have jg:=of_decide_eq_false f1
     have u24:=fj 3 false true i0 1 o!
     exact s9.round (by simp only[iZ,f1,ao,ai]) (pk (d+7) _ _ hh _ rL (za<|BC f1<|VV u24<|CC<|ZZ) k!) o! _ k! (fun x=>Hk n op q cY dj cD eX oI bY tA zn ny d_ (i0+1) (ak.set i0 (⟨(ak.g i0).time,(bE (⟨(ak.g i0).ax,(ak.g i0).ar⟩:Span) (⟨(IntKind.i64.wrap ((ak.g (i0 - 1)).ax -(IntKind.i64.wrap (q.aK*(IntKind.i64.wrap ((ak.g i0).time -((ak.g (i0 - 1)).time))))))),(IntKind.i64.wrap (((ak.g (i0 - 1)).ar)+(IntKind.i64.wrap (q.aI*(IntKind.i64.wrap ((ak.g i0).time -((ak.g (i0 - 1)).time)))))))⟩:Span)).aX,(bE (⟨(ak.g i0).ax,(ak.g i0).ar⟩:Span) (⟨(IntKind.i64.wrap ((ak.g (i0 - 1)).ax -(IntKind.i64.wrap (q.aK*(IntKind.i64.wrap ((ak.g i0).time -((ak.g (i0 - 1)).time))))))),(IntKind.i64.wrap (((ak.g (i0 - 1)).ar)+(IntKind.i64.wrap (q.aI*(IntKind.i64.wrap ((ak.g i0).time -((ak.g (i0 - 1)).time)))))))⟩:Span)).aG⟩:Gate)) o! (show (List.length (ak.set i0 (⟨(ak.g i0).time,(bE (⟨(ak.g i0).ax,(ak.g i0).ar⟩:Span) (⟨(IntKind.i64.wrap ((ak.g (i0 - 1)).ax -(IntKind.i64.wrap (q.aK*(IntKind.i64.wrap ((ak.g i0).time -((ak.g (i0 - 1)).time))))))),(IntKind.i64.wrap (((ak.g (i0 - 1)).ar)+(IntKind.i64.wrap (q.aI*(IntKind.i64.wrap ((ak.g i0).time -((ak.g (i0 - 1)).time)))))))⟩:Span)).aX,(bE (⟨(ak.g i0).ax,(ak.g i0).ar⟩:Span) (⟨(IntKind.i64.wrap ((ak.g (i0 - 1)).ax -(IntKind.i64.wrap (q.aK*(IntKind.i64.wrap ((ak.g i0).time -((ak.g (i0 - 1)).time))))))),(IntKind.i64.wrap (((ak.g (i0 - 1)).ar)+(IntKind.i64.wrap (q.aI*(IntKind.i64.wrap ((ak.g i0).time -((ak.g (i0 - 1)).time)))))))⟩:Span)).aG⟩:Gate))=n∧n≤20∧1≤(i0+1)) from CV) x rL tD rM o! (CZ _ _ o! (fH _ _ o! (gz _ _ du))) CY)
def ja (q:ay):Nat→Nat→List Gate→List Gate
 | 0,_,aJ=>aJ
 | bF+1,i1,aJ=>ja q bF (i1+1) (aJ.set bF (⟨(aJ.g bF).time,(bE (⟨(aJ.g bF).ax,(aJ.g bF).ar⟩:Span) (⟨(IntKind.i64.wrap ((aJ.g (bF+1)).ax -(IntKind.i64.wrap (q.aI*(IntKind.i64.wrap ((aJ.g (bF+1)).time -((aJ.g bF).time))))))),(IntKind.i64.wrap (((aJ.g (bF+1)).ar)+(IntKind.i64.wrap (q.aK*(IntKind.i64.wrap ((aJ.g (bF+1)).time -((aJ.g bF).time)))))))⟩:Span)).aX,(bE (⟨(aJ.g bF).ax,(aJ.g bF).ar⟩:Span) (⟨(IntKind.i64.wrap ((aJ.g (bF+1)).ax -(IntKind.i64.wrap (q.aI*(IntKind.i64.wrap ((aJ.g (bF+1)).time -((aJ.g bF).time))))))),(IntKind.i64.wrap (((aJ.g (bF+1)).ar)+(IntKind.i64.wrap (q.aK*(IntKind.i64.wrap ((aJ.g (bF+1)).time -((aJ.g bF).time)))))))⟩:Span)).aG⟩:Gate))
theorem N6 {d:Nat} {h:au} (n:Nat) (op:Bool) (q:ay) (dt:Nat) (fm:Nat) (qj:q.name.length<2^60) (me:aZ h q.aB q.af) (zc:aA.ok h q) (bY:Tidy h) (Mc:h.nx≤dt) (X1:h.get fm=none) (Mg:fm≠dt):∀(k_ i_:Nat) (aJ:List Gate) (ci1:Int) (_:ci1=((k_:Nat):Int) - 1) (_:i_+k_=(n - 1)) (_:(List.length aJ=n∧n≤20)) (x:Nat→AV) (hh:au) (aN:Tidy hh) (bj:Has h hh) (jo:h.nx≤hh.nx) (dK:hh.get dt=some (a_.cells [(AV.str q.name),(Zi q.aj),(Zi q.ah),(Zi q.aI),(Zi q.aK),(Zi q.bad),q.aB] 26 false)) (jq:hh.get fm=some (a_.cells (List.flatMap (aA.c (α:=Gate)) aJ) 66 false)),dU (σ:=List Gate) (ζ:=Unit) (cW (d+7)) abw ⟨((x 0)::(x 1)::(Pt dt)::(x 3)::(x 4)::(AV.slice fm 0 n n op)::rx x 6 3 ((Zi ci1)::rx x 10 118 [])),hh,[],.no⟩ (.exit 2) hh (fun r z y=>((y 0)::(y 1)::(Pt dt)::(y 3)::(y 4)::(AV.slice fm 0 n n op)::rx y 6 122 [])) (fun r z hk=>Has h hk∧hk.get dt=some (a_.cells [(AV.str q.name),(Zi q.aj),(Zi q.ah),(Zi q.aI),(Zi q.aK),(Zi q.bad),q.aB] 26 false)∧hk.get fm=some (a_.cells (List.flatMap (aA.c (α:=Gate)) r) 66 false)∧(List.length r=n∧n≤20)) (ja q k_ i_ aJ)
 | 0,i1,aJ,ci1,hci,kY,zj,x,hh,aN,bj,jo,dK,jq=>by
   obtain rfl:ci1= -1:=by omega
   have rj:=me.small
   have zd:=aN _ _ dK
   have Mh:=aN _ _ jq
   exact dU.out aJ () rfl (pk (d+7) _ _ hh _ hh (CN 2<|FF<|ZZ) k!) aN o! ⟨bj,dK,jq,(show (List.length aJ=n∧n≤20) from CV)⟩ k!
 | bF+1,i1,aJ,ci1,hci,kY,zj,x,hh,aN,bj,jo,dK,jq=>by
   obtain rfl:ci1=((bF:Nat):Int):=by omega
   have rj:=me.small
   have zd:=aN _ _ dK
   have Mh:=aN _ _ jq
   have q1:(decide (0≤((bF:Nat):Int)))=true:=d!
   have u2:=fj 3 false true bF 1 o!
   have DP:dr env (some (.slice 66)) (some (AV.slice fm 0 n n op)) (some (Zn (bF+1)))=some (AV.ptr fm (0+(bF+1)*3)):=cx (size:=3) k! (show (bF+1)<n by omega)
   have ld4:bG env hh 23 (AV.ptr fm ((0+(bF+1)*3)+1))=some (AV.agg [(Zi (aJ.g (bF+1)).ax),(Zi (aJ.g (bF+1)).ar)]):=mT (i:=(bF+1)) (j:=1) (n:=2) jq rfl iB k! k! (by decide) rfl
   have u5:=fj 3 false true bF 1 o!
   have LK:dr env (some (.slice 66)) (some (AV.slice fm 0 n n op)) (some (Zn (bF+1)))=some (AV.ptr fm (0+(bF+1)*3)):=cx (size:=3) k! (show (bF+1)<n by omega)
   have ld7:bG env hh 3 (AV.ptr fm ((0+(bF+1)*3)+0))=some (Zi (aJ.g (bF+1)).time):=hX (i:=(bF+1)) (j:=0) jq rfl iB k! rfl
   have Wd:dr env (some (.slice 66)) (some (AV.slice fm 0 n n op)) (some (Zn bF))=some (AV.ptr fm (0+bF*3)):=cx (size:=3) k! (show bF<n by omega)
   have XR:bG env hh 3 (AV.ptr fm ((0+bF*3)+0))=some (Zi (aJ.g bF).time):=hX (i:=bF) (j:=0) jq rfl iB k! rfl
   obtain ⟨rZ,TI,mP,aeB,JT,gz⟩:=iQ aN (a_.cells [(Zi 0),(Zi 0)] 23 false)
   have lW:Has h rZ:=bj.trans gz
   have CW:Has hh rZ:=gz
   obtain ⟨DY,TJ,CX,ZJ,tC,fH⟩:=xg (t:=23) (n:=2) (i:=hh.nx) (L:=[(Zi (aJ.g (bF+1)).ax),(Zi (aJ.g (bF+1)).ar)]) mP JT k! rfl rfl (by simp only[AV.cells,List.all_cons,List.all_nil,Bool.and_true,Bool.and_self,fB,dZ,fC,fD,dh,iT,iU,iV,iW,iX,fE])
   have JU:Has h DY:=Has.cj lW fH bY o!
   have JV:Has hh DY:=Has.cj CW fH aN o!
   have Tx:AV.same 20 (AV.agg [(Zi (aJ.g (bF+1)).ax),(Zi (aJ.g (bF+1)).ar)]) (AV.agg [(Zi (aJ.g (bF+1)).ax),(Zi (aJ.g (bF+1)).ar)])=true:=ie 18 (pR (fun n=>aU n _ _) (pR (fun n=>aU n _ _) Pq))
   have TG:dr env (some (.slice 66)) (some (AV.slice fm 0 n n op)) (some (Zn bF))=some (AV.ptr fm (0+bF*3)):=cx (size:=3) k! (show bF<n by omega)
   have vK:bG env DY 23 (AV.ptr fm ((0+bF*3)+1))=some (AV.agg [(Zi (aJ.g bF).ax),(Zi (aJ.g bF).ar)]):=mT (i:=bF) (j:=1) (n:=2) (fH _ _ o! (gz _ _ jq)) rfl iB k! k! (by decide) rfl
   have k15:=CU (d:=d+6) (⟨(aJ.g bF).ax,(aJ.g bF).ar⟩:Span) (⟨(IntKind.i64.wrap ((aJ.g (bF+1)).ax -(IntKind.i64.wrap (q.aI*(IntKind.i64.wrap ((aJ.g (bF+1)).time -((aJ.g bF).time))))))),(IntKind.i64.wrap (((aJ.g (bF+1)).ar)+(IntKind.i64.wrap (q.aK*(IntKind.i64.wrap ((aJ.g (bF+1)).time -((aJ.g bF).time)))))))⟩:Span) trivial trivial CX
   have abx:dr env (some (.slice 66)) (some (AV.slice fm 0 n n op)) (some (Zn bF))=some (AV.ptr fm (0+bF*3)):=cx (size:=3) k! (show bF<n by omega)
   obtain ⟨rL,Mf,tD,aeC,CY,CZ⟩:=xM (i:=bF) (j:=1) (t:=23) (n:=2) (v:=(AV.agg [(Zi (bE (⟨(aJ.g bF).ax,(aJ.g bF).ar⟩:Span) (⟨(IntKind.i64.wrap ((aJ.g (bF+1)).ax -(IntKind.i64.wrap (q.aI*(IntKind.i64.wrap ((aJ.g (bF+1)).time -((aJ.g bF).time))))))),(IntKind.i64.wrap (((aJ.g (bF+1)).ar)+(IntKind.i64.wrap (q.aK*(IntKind.i64.wrap ((aJ.g (bF+1)).time -((aJ.g bF).time)))))))⟩:Span)).aX),(Zi (bE (⟨(aJ.g bF).ax,(aJ.g bF).ar⟩:Span) (⟨(IntKind.i64.wrap ((aJ.g (bF+1)).ax -(IntKind.i64.wrap (q.aI*(IntKind.i64.wrap ((aJ.g (bF+1)).time -((aJ.g bF).time))))))),(IntKind.i64.wrap (((aJ.g (bF+1)).ar)+(IntKind.i64.wrap (q.aK*(IntKind.i64.wrap ((aJ.g (bF+1)).time -((aJ.g bF).time)))))))⟩:Span)).aG)])) (x:=(⟨(aJ.g bF).time,(bE (⟨(aJ.g bF).ax,(aJ.g bF).ar⟩:Span) (⟨(IntKind.i64.wrap ((aJ.g (bF+1)).ax -(IntKind.i64.wrap (q.aI*(IntKind.i64.wrap ((aJ.g (bF+1)).time -((aJ.g bF).time))))))),(IntKind.i64.wrap (((aJ.g (bF+1)).ar)+(IntKind.i64.wrap (q.aK*(IntKind.i64.wrap ((aJ.g (bF+1)).time -((aJ.g bF).time)))))))⟩:Span)).aX,(bE (⟨(aJ.g bF).ax,(aJ.g bF).ar⟩:Span) (⟨(IntKind.i64.wrap ((aJ.g (bF+1)).ax -(IntKind.i64.wrap (q.aI*(IntKind.i64.wrap ((aJ.g (bF+1)).time -((aJ.g bF).time))))))),(IntKind.i64.wrap (((aJ.g (bF+1)).ar)+(IntKind.i64.wrap (q.aK*(IntKind.i64.wrap ((aJ.g (bF+1)).time -((aJ.g bF).time)))))))⟩:Span)).aG⟩:Gate)) CX (fH _ _ o! (gz _ _ jq)) rfl iB k! rfl (by decide) (by simp [AV.cells,AV.scalar]) rfl
   have TL:eF env DY 23 (AV.ptr fm ((0+bF*3)+1)) (AV.agg [(Zi (bE (⟨(aJ.g bF).ax,(aJ.g bF).ar⟩:Span) (⟨(IntKind.i64.wrap ((aJ.g (bF+1)).ax -(IntKind.i64.wrap (q.aI*(IntKind.i64.wrap ((aJ.g (bF+1)).time -((aJ.g bF).time))))))),(IntKind.i64.wrap (((aJ.g (bF+1)).ar)+(IntKind.i64.wrap (q.aK*(IntKind.i64.wrap ((aJ.g (bF+1)).time -((aJ.g bF).time)))))))⟩:Span)).aX),(Zi (bE (⟨(aJ.g bF).ax,(aJ.g bF).ar⟩:Span) (⟨(IntKind.i64.wrap ((aJ.g (bF+1)).ax -(IntKind.i64.wrap (q.aI*(IntKind.i64.wrap ((aJ.g (bF+1)).time -((aJ.g bF).time))))))),(IntKind.i64.wrap (((aJ.g (bF+1)).ar)+(IntKind.i64.wrap (q.aK*(IntKind.i64.wrap ((aJ.g (bF+1)).time -((aJ.g bF).time)))))))⟩:Span)).aG)])=some rL:=Mf
   have rM:Has h rL:=Has.mU JU CZ X1
   have c18:AV.same 20 (AV.agg [(Zi (aJ.g bF).ax),(Zi (aJ.g bF).ar)]) (AV.agg [(Zi (aJ.g bF).ax),(Zi (aJ.g bF).ar)])=true:=ie 18 (pR (fun n=>aU n _ _) (pR (fun n=>aU n _ _) Pq))
   have w19:IntKind.i64.wrap (((bF:Nat):Int) - 1)=((bF:Nat):Int) - 1:=wrap_i64 o! o!
   exact dU.round (by simp only[ja,ao,ai]) (pk (d+7) _ _ hh _ rL (CC<|VV (qh 3 false true .i64 ((bF:Nat):Int) 0)<|BB q1<|CN 2<|VV u2<|VV DP<|CC<|MM ld4<|CN 2<|VV u5<|VV LK<|CC<|MM ld7<|CN 2<|VV Wd<|CC<|MM XR<|CC<|NN TI (fun i=>(Pt i))<|SS TJ<|CC<|HH (show bG env rZ 23 (AV.ptr fm ((0+(bF+1)*3)+1))=some (AV.agg [(Zi (aJ.g (bF+1)).ax),(Zi (aJ.g (bF+1)).ar)]) from (mT (i:=(bF+1)) (j:=1) (n:=2) (gz _ _ jq) rfl iB k! k! (by decide) rfl))<|HH Tx<|HH (show bG env rZ 3 (AV.ptr fm ((0+(bF+1)*3)+0))=some (Zi (aJ.g (bF+1)).time) from (hX (i:=(bF+1)) (j:=0) (gz _ _ jq) rfl iB k! rfl))<|HH (show AV.same 20 (Zi (aJ.g (bF+1)).time) (Zi (aJ.g (bF+1)).time)=true from aU 19 _ _)<|HH (show bG env DY 3 (AV.ptr fm ((0+(bF+1)*3)+0))=some (Zi (aJ.g (bF+1)).time) from (hX (i:=(bF+1)) (j:=0) (fH _ _ o! (gz _ _ jq)) rfl iB k! rfl))<|HH (show AV.same 20 (Zi (aJ.g (bF+1)).time) (Zi (aJ.g (bF+1)).time)=true from aU 19 _ _)<|HH (show bG env rZ 3 (AV.ptr fm ((0+bF*3)+0))=some (Zi (aJ.g bF).time) from (hX (i:=bF) (j:=0) (gz _ _ jq) rfl iB k! rfl))<|HH (show AV.same 20 (Zi (aJ.g bF).time) (Zi (aJ.g bF).time)=true from aU 19 _ _)<|HH (show bG env DY 3 (AV.ptr fm ((0+bF*3)+0))=some (Zi (aJ.g bF).time) from (hX (i:=bF) (j:=0) (fH _ _ o! (gz _ _ jq)) rfl iB k! rfl))<|HH (show AV.same 20 (Zi (aJ.g bF).time) (Zi (aJ.g bF).time)=true from aU 19 _ _)<|HH (show ∃o,rZ.get hh.nx=some o∧a_.same o (a_.cells [(Zi 0),(Zi 0)] 23 false)=true from ⟨_,JT,by simp [a_.same,cL,AV.same]⟩)<|CN 4<|VV TG<|CC<|MM vK<|CC<|MM (aM 3 0 (Zi (aJ.g (bF+1)).ax) tC k!)<|CC<|MM (aM 3 3 (Zi q.aI) (fH _ _ o! (gz _ _ dK)) k!)<|CN 4<|MM (aM 3 1 (Zi (aJ.g (bF+1)).ar) tC k!)<|CC<|MM (aM 3 4 (Zi q.aK) (fH _ _ o! (gz _ _ dK)) k!)<|CN 4<|EE k15<|VV abx<|CC<|SS TL<|HH (show bG env DY 23 (AV.ptr fm ((0+bF*3)+1))=some (AV.agg [(Zi (aJ.g bF).ax),(Zi (aJ.g bF).ar)]) from (mT (i:=bF) (j:=1) (n:=2) (fH _ _ o! (gz _ _ jq)) rfl iB k! k! (by decide) rfl))<|HH c18<|HH (aM 3 0 (Zi (aJ.g (bF+1)).ax) tC k!)<|HH (show AV.same 20 (Zi (aJ.g (bF+1)).ax) (Zi (aJ.g (bF+1)).ax)=true from aU 19 _ _)<|HH (aM 3 3 (Zi q.aI) (fH _ _ o! (gz _ _ dK)) k!)<|HH (show AV.same 20 (Zi q.aI) (Zi q.aI)=true from aU 19 _ _)<|HH (aM 3 1 (Zi (aJ.g (bF+1)).ar) tC k!)<|HH (show AV.same 20 (Zi (aJ.g (bF+1)).ar) (Zi (aJ.g (bF+1)).ar)=true from aU 19 _ _)<|HH (aM 3 4 (Zi q.aK) (fH _ _ o! (gz _ _ dK)) k!)<|HH (show AV.same 20 (Zi q.aK) (Zi q.aK)=true from aU 19 _ _)<|CC<|VV (wM 3 false true w19)<|CC<|ZZ) k!) o! _ k! (fun x=>N6 n op q dt fm qj me zc bY Mc X1 Mg bF (i1+1) (aJ.set bF (⟨(aJ.g bF).time,(bE (⟨(aJ.g bF).ax,(aJ.g bF).ar⟩:Span) (⟨(IntKind.i64.wrap ((aJ.g (bF+1)).ax -(IntKind.i64.wrap (q.aI*(IntKind.i64.wrap ((aJ.g (bF+1)).time -((aJ.g bF).time))))))),(IntKind.i64.wrap (((aJ.g (bF+1)).ar)+(IntKind.i64.wrap (q.aK*(IntKind.i64.wrap ((aJ.g (bF+1)).time -((aJ.g bF).time)))))))⟩:Span)).aX,(bE (⟨(aJ.g bF).ax,(aJ.g bF).ar⟩:Span) (⟨(IntKind.i64.wrap ((aJ.g (bF+1)).ax -(IntKind.i64.wrap (q.aI*(IntKind.i64.wrap ((aJ.g (bF+1)).time -((aJ.g bF).time))))))),(IntKind.i64.wrap (((aJ.g (bF+1)).ar)+(IntKind.i64.wrap (q.aK*(IntKind.i64.wrap ((aJ.g (bF+1)).time -((aJ.g bF).time)))))))⟩:Span)).aG⟩:Gate)) (((bF:Nat):Int) - 1) o! o! (show (List.length (aJ.set bF (⟨(aJ.g bF).time,(bE (⟨(aJ.g bF).ax,(aJ.g bF).ar⟩:Span) (⟨(IntKind.i64.wrap ((aJ.g (bF+1)).ax -(IntKind.i64.wrap (q.aI*(IntKind.i64.wrap ((aJ.g (bF+1)).time -((aJ.g bF).time))))))),(IntKind.i64.wrap (((aJ.g (bF+1)).ar)+(IntKind.i64.wrap (q.aK*(IntKind.i64.wrap ((aJ.g (bF+1)).time -((aJ.g bF).time)))))))⟩:Span)).aX,(bE (⟨(aJ.g bF).ax,(aJ.g bF).ar⟩:Span) (⟨(IntKind.i64.wrap ((aJ.g (bF+1)).ax -(IntKind.i64.wrap (q.aI*(IntKind.i64.wrap ((aJ.g (bF+1)).time -((aJ.g bF).time))))))),(IntKind.i64.wrap (((aJ.g (bF+1)).ar)+(IntKind.i64.wrap (q.aK*(IntKind.i64.wrap ((aJ.g (bF+1)).time -((aJ.g bF).time)))))))⟩:Span)).aG⟩:Gate))=n∧n≤20) from CV) x rL tD rM o! (CZ _ _ o! (fH _ _ o! (gz _ _ dK))) CY)
theorem aeD {d:Nat} {g hh:au} {p n:Nat} {op:Bool} {L:List Gate} (q:ay) (hqg:aA.ok g q) (agh:Has g hh) (gnp:g.get p=none) (aN:Tidy hh) (gp:hh.get p=some (.cells (List.flatMap (aA.c (α:=Gate)) L) 66 false)) (hn:L.length=n) (Ng:n≤19) (hn3:1≤n):
 ∃hk v,cW (d+8) (.fn 47) [.agg (aA.c q),.slice p 0 n n op] hh= .ret v hk∧Tidy hk∧hh.nx≤hk.nx∧Kept p hh hk∧(iZ q n (n - 1) 1 (eZ n (n - 1) 1 L)=none→v= .aQ)∧∀w,iZ q n (n - 1) 1 (eZ n (n - 1) 1 L)=some w→v= .slice p 0 n n op∧hk.get p=some (.cells (List.flatMap (aA.c (α:=Gate)) (ja q (n - 1) 0 w)) 66 false):=by
 obtain ⟨h,bY,bj,hp,jo,kp,lft⟩:=xK aN gp
 have hq:aA.ok h q:=aA.mono (lft g agh gnp) hqg
 have sq:=hq.2.small
 have T_p:=aN _ _ gp
 have il:(eZ n (n - 1) 1 L).length=n:=(N5 _ _ _).trans hn
 rcases QI:(iZ q n (n - 1) 1 (eZ n (n - 1) 1 L)) with _ | w0
 · skip
   obtain ⟨h1,cA,cq,jf,aY,ct⟩:=iQ aN (a_.cells [(AV.str q.name),(Zi q.aj),(Zi q.ah),(Zi q.aI),(Zi q.aK),(Zi q.bad),q.aB] 26 false)
   have bI:Has h h1:=bj.trans ct
   have X2:Has hh h1:=ct
   obtain ⟨h2,TM,gG,Hl,fW,C1⟩:=ZG (d:=d) (n:=n) (op:=op) cq (ct _ _ gp) hn Ng hn3
   have fF:Has h h2:=Has.mU bI C1 hp
   have FW0:=Hk (d:=d) (h:=h) n op q hh.nx p hq.1 hq.2 hq bY o! hp o! (n - 1) 1 (eZ n (n - 1) 1 L) o! (show (List.length (eZ n (n - 1) 1 L)=n∧n≤20∧1≤1) from CV) (fun k_=>(((AV.agg [(AV.str q.name),(Zi q.aj),(Zi q.ah),(Zi q.aI),(Zi q.aK),(Zi q.bad),q.aB])::(AV.slice p 0 n n op)::(Pt hh.nx)::AV.undef::AV.aQ::(AV.slice p 0 n n op)::(Zi 1)::AV.undef::AV.undef::AV.undef::AV.undef::AV.undef::(AV.slice p 0 n n op)::(AV.slice p 0 n n op)::(AV.tuple [])::kX 113):List AV).getD k_ AV.undef) h2 gG fF o! (C1 _ _ o! aY) fW
   rw[QI] at FW0
   obtain ⟨yr4,h3,abA,gF,vP,xO⟩:=FW0
   have ik:Has h h3:=xO
   have ev:=pk (d+7) xR ((AV.agg [(AV.str q.name),(Zi q.aj),(Zi q.ah),(Zi q.aI),(Zi q.aK),(Zi q.bad),q.aB])::(AV.slice p 0 n n op)::kX 126) hh .ret h3 (NN cA (fun i=>(Pt i))<|CN 4<|EE TM<|CC<|LL abA<|ZZ) k!
   obtain ⟨hk,e,q⟩:=kG rfl (bx (v:= .aQ) Try.func47 aeA k! (.inr rfl) ev k!)
   refine ⟨hk,.aQ,e,?_⟩
   rcases q with rfl | ⟨rfl,A⟩
   · exact ⟨gF,by omega,kp _ xO,fun _=>rfl,fun w e=>(by cases e)⟩
   · exact ⟨aN,Nat.le_refl _,fun _ _ _ q=>q,fun _=>rfl,fun w e=>(by cases e)⟩
 · skip
   obtain ⟨h1,cA,cq,jf,aY,ct⟩:=iQ aN (a_.cells [(AV.str q.name),(Zi q.aj),(Zi q.ah),(Zi q.aI),(Zi q.aK),(Zi q.bad),q.aB] 26 false)
   have bI:Has h h1:=bj.trans ct
   have X2:Has hh h1:=ct
   obtain ⟨h2,TM,gG,Hl,fW,C1⟩:=ZG (d:=d) (n:=n) (op:=op) cq (ct _ _ gp) hn Ng hn3
   have fF:Has h h2:=Has.mU bI C1 hp
   have FW0:=Hk (d:=d) (h:=h) n op q hh.nx p hq.1 hq.2 hq bY o! hp o! (n - 1) 1 (eZ n (n - 1) 1 L) o! (show (List.length (eZ n (n - 1) 1 L)=n∧n≤20∧1≤1) from CV) (fun k_=>(((AV.agg [(AV.str q.name),(Zi q.aj),(Zi q.ah),(Zi q.aI),(Zi q.aK),(Zi q.bad),q.aB])::(AV.slice p 0 n n op)::(Pt hh.nx)::AV.undef::AV.aQ::(AV.slice p 0 n n op)::(Zi 1)::AV.undef::AV.undef::AV.undef::AV.undef::AV.undef::(AV.slice p 0 n n op)::(AV.slice p 0 n n op)::(AV.tuple [])::kX 113):List AV).getD k_ AV.undef) h2 gG fF o! (C1 _ _ o! aY) fW
   rw[QI] at FW0
   obtain ⟨_,X3,h4,C2,qp,aeE,aeF,abB,abC,X4⟩:=FW0
   have qq:Has h h4:=aeF
   have w5:IntKind.i64.wrap (((n:Nat):Int) - 2)=((n:Nat):Int) - 2:=wrap_i64 o! o!
   obtain ⟨_,yl6,h7,C3,lM,aj8,ZK,ahE,Mi,agB⟩:=N6 (d:=d) (h:=h) n op q hh.nx p hq.1 hq.2 hq bY o! hp o! (n - 1) 0 w0 (((n:Nat):Int) - 2) o! o! (show (List.length w0=n∧n≤20) from CV) (fun k_=>(((X3 0)::(X3 1)::(Pt hh.nx)::(X3 3)::(X3 4)::(AV.slice p 0 n n op)::rx X3 6 3 ((Zi (((n:Nat):Int) - 2))::rx X3 10 67 ((AV.slice p 0 n n op)::(Zn n)::(Zi (((n:Nat):Int) - 2))::rx X3 80 48 []))):List AV).getD k_ AV.undef) h4 qp qq o! abB abC
   have kJ:Has h h7:=ZK
   have ev:=pk (d+7) xR ((AV.agg [(AV.str q.name),(Zi q.aj),(Zi q.ah),(Zi q.aI),(Zi q.aK),(Zi q.bad),q.aB])::(AV.slice p 0 n n op)::kX 126) hh .ret h7 (NN cA (fun i=>(Pt i))<|CN 4<|EE TM<|CC<|LL C2<|CN 2<|VV (wM 3 false true w5)<|CC<|LL C3<|CN 2<|ZZ) k!
   obtain ⟨hk,e,q⟩:=kG rfl (bx (v:= .slice p 0 n n op) Try.func47 aeA k! (.inr rfl) ev k!)
   refine ⟨hk,.slice p 0 n n op,e,?_⟩
   rcases q with rfl | ⟨rfl,A⟩
   · exact ⟨lM,by omega,kp _ ZK,(fun e=>(by cases e)),fun w e=>(by cases e;exact ⟨rfl,Mi⟩)⟩
   · refine ⟨aN,Nat.le_refl _,fun _ _ _ q=>q,(fun e=>(by cases e)),fun w e=>?_⟩
     cases e
     rw[A _ _ gp] at Mi
     exact ⟨rfl,by rw[gp];exact Mi⟩
def kn (g:Gate):di:=⟨g.time,g.ax,g.ar⟩
def Open (g:Gate):Prop:=g.ax= -9223372036854775808∧g.ar=9223372036854775807
def N7 (q:ay) (a b:Gate):Gate:=⟨b.time,(bE (⟨b.ax,b.ar⟩:Span) (⟨(IntKind.i64.wrap (a.ax -(IntKind.i64.wrap (q.aK*(IntKind.i64.wrap (b.time - a.time)))))),(IntKind.i64.wrap (a.ar+(IntKind.i64.wrap (q.aI*(IntKind.i64.wrap (b.time - a.time))))))⟩:Span)).aX,(bE (⟨b.ax,b.ar⟩:Span) (⟨(IntKind.i64.wrap (a.ax -(IntKind.i64.wrap (q.aK*(IntKind.i64.wrap (b.time - a.time)))))),(IntKind.i64.wrap (a.ar+(IntKind.i64.wrap (q.aI*(IntKind.i64.wrap (b.time - a.time))))))⟩:Span)).aG⟩
def X5 (q:ay) (a b:Gate):Gate:=⟨a.time,(bE (⟨a.ax,a.ar⟩:Span) (⟨(IntKind.i64.wrap (b.ax -(IntKind.i64.wrap (q.aI*(IntKind.i64.wrap (b.time - a.time)))))),(IntKind.i64.wrap (b.ar+(IntKind.i64.wrap (q.aK*(IntKind.i64.wrap (b.time - a.time))))))⟩:Span)).aX,(bE (⟨a.ax,a.ar⟩:Span) (⟨(IntKind.i64.wrap (b.ax -(IntKind.i64.wrap (q.aI*(IntKind.i64.wrap (b.time - a.time)))))),(IntKind.i64.wrap (b.ar+(IntKind.i64.wrap (q.aK*(IntKind.i64.wrap (b.time - a.time))))))⟩:Span)).aG⟩
theorem C4 (q:ay) (n k i:Nat) (C:List Gate):iZ q n (k+1) i C=bif decide (((C.set i (N7 q (C.g (i - 1)) (C.g i))).g i).ar<((C.set i (N7 q (C.g (i - 1)) (C.g i))).g i).ax) then none else iZ q n k (i+1) (C.set i (N7 q (C.g (i - 1)) (C.g i))):=by rw[iZ];rfl
theorem C5 (q:ay) (k i:Nat) (C:List Gate):ja q (k+1) i C=ja q k (i+1) (C.set k (X5 q (C.g k) (C.g (k+1)))):=by rw[ja];rfl
theorem oT {α:Type} [Inhabited α] {C:List α} {i:Nat} (x:α) (h:i<C.length):(C.set i x).g i=x:=by
 rw[List.g,List.getD_eq_getElem?_getD,List.getElem?_set_self h];rfl
theorem mV {α:Type} [Inhabited α] {C:List α} {i j:Nat} (x:α) (h:i≠j):(C.set i x).g j=C.g j:=by
 rw[List.g,List.g,List.getD_eq_getElem?_getD,List.getD_eq_getElem?_getD,List.getElem?_set_ne h]
structure DZ (f r:Int) (S:List Gate) (D:Nat→Prop) (g:Gate):Prop where
 aX:∃k,D k∧KB (kn (S.g k))∧g.ax=(gM f r (kn (S.g k)) g.time).aX
 aG:∃k,D k∧KB (kn (S.g k))∧g.ar=(gM f r (kn (S.g k)) g.time).aG
 all:∀k,D k→KB (kn (S.g k))→(gM f r (kn (S.g k)) g.time).aX≤g.ax∧g.ar≤(gM f r (kn (S.g k)) g.time).aG
structure N8 (S:List Gate):Prop where
 time:∀k,k<S.length→0≤(S.g k).time∧(S.g k).time≤100000
 order:∀j k,j≤k→k<S.length→(S.g j).time≤(S.g k).time
 each:∀k,k<S.length→KB (kn (S.g k))∨Open (S.g k)
 first:KB (kn (S.g 0))
 wide:∀k,k<S.length→(S.g k).ax≤(S.g k).ar
section
variable {q:ay} (f0:0≤q.aK) (f1:q.aK≤10000) (r0:0≤q.aI) (r1:q.aI≤10000) {S:List Gate} (gs:N8 S)
include f0 f1 r0 r1
theorem E3 {k:di} {t:Int} (hk:KB k) (t0:0≤t) (t1:t≤100000): -1001000000000≤(gM q.aK q.aI k t).aX∧(gM q.aK q.aI k t).aX≤1001000000000∧-1001000000000≤(gM q.aK q.aI k t).aG∧(gM q.aK q.aI k t).aG≤1001000000000:=by
 obtain ⟨⟨a,b⟩,c,d,e,g⟩:=hk
 rw[gM]
 split
 · obtain ⟨m1,m2⟩:=ji f0 f1 (x:=t - k.time) o! o!
   obtain ⟨m3,m4⟩:=ji r0 r1 (x:=t - k.time) o! o!
   exact ⟨by simp only;omega,by simp only;omega,by simp only;omega,by simp only;omega⟩
 · obtain ⟨m1,m2⟩:=ji f0 f1 (x:=k.time - t) o! o!
   obtain ⟨m3,m4⟩:=ji r0 r1 (x:=k.time - t) o! o!
   exact ⟨by simp only;omega,by simp only;omega,by simp only;omega,by simp only;omega⟩
include gs
theorem X6 {i:Nat} (hi:i+1<S.length) {a:Gate} (ht:a.time=(S.g i).time) (ha:DZ q.aK q.aI S (· ≤i) a):DZ q.aK q.aI S (· ≤i+1) (N7 q a (S.g (i+1)))∧(N7 q a (S.g (i+1))).time=(S.g (i+1)).time:=by
 have T0:=gs.time i o!;have T1:=gs.time (i+1) hi;have T2:=gs.order i (i+1) o! hi
 obtain ⟨c,c1,c2,c3⟩:=ha.aX
 obtain ⟨e,e1,e2,e3⟩:=ha.aG
 have bc:=E3 f0 f1 r0 r1 c2 (t:=a.time) o! o!
 have be:=E3 f0 f1 r0 r1 e2 (t:=a.time) o! o!
 obtain ⟨m1,m2⟩:=ji f0 f1 (x:=(S.g (i+1)).time - a.time) o! o!
 obtain ⟨m3,m4⟩:=ji r0 r1 (x:=(S.g (i+1)).time - a.time) o! o!
 have TN:(N7 q a (S.g (i+1))).ax=max (S.g (i+1)).ax (a.ax - q.aK*((S.g (i+1)).time - a.time)):=by
  simp only[N7,bE,um]
  rw[wrap_i64 (n:=(S.g (i+1)).time - a.time) o! o!,wrap_i64 (n:=q.aK*((S.g (i+1)).time - a.time)) o! o!,wrap_i64 (n:=a.ax - q.aK*((S.g (i+1)).time - a.time)) o! o!]
 have JW:(N7 q a (S.g (i+1))).ar=min (S.g (i+1)).ar (a.ar+q.aI*((S.g (i+1)).time - a.time)):=by
  simp only[N7,bE,uk]
  rw[wrap_i64 (n:=(S.g (i+1)).time - a.time) o! o!,wrap_i64 (n:=q.aI*((S.g (i+1)).time - a.time)) o! o!,wrap_i64 (n:=a.ar+q.aI*((S.g (i+1)).time - a.time)) o! o!]
 have xS:(N7 q a (S.g (i+1))).time=(S.g (i+1)).time:=rfl
 have late:∀k,k≤i→(gM q.aK q.aI (kn (S.g k)) (S.g (i+1)).time).aX=(gM q.aK q.aI (kn (S.g k)) a.time).aX - q.aK*((S.g (i+1)).time - a.time)∧(gM q.aK q.aI (kn (S.g k)) (S.g (i+1)).time).aG=(gM q.aK q.aI (kn (S.g k)) a.time).aG+q.aI*((S.g (i+1)).time - a.time):=fun k hk=>by
  have o1:=gs.order k i hk o!
  have h1:(kn (S.g k)).time≤a.time:=by show (S.g k).time≤a.time;omega
  have h2:(kn (S.g k)).time≤(S.g (i+1)).time:=by omega
  unfold gM
  rw[if_pos h1,if_pos h2]
  simp only[Int.mul_sub]
  omega
 have own:(gM q.aK q.aI (kn (S.g (i+1))) (S.g (i+1)).time).aX=(S.g (i+1)).ax∧(gM q.aK q.aI (kn (S.g (i+1))) (S.g (i+1)).time).aG=(S.g (i+1)).ar:=by
  unfold gM
  rw[if_pos (show (kn (S.g (i+1))).time≤(S.g (i+1)).time from Int.le_refl _)]
  simp only[kn,Int.sub_self,Int.mul_zero,Int.sub_zero,Int.add_zero,and_self]
 refine ⟨⟨?_,?_,?_⟩,xS⟩
 · rw[TN,xS]
   by_cases w:(S.g (i+1)).ax≤a.ax - q.aK*((S.g (i+1)).time - a.time)
   · exact ⟨c,by omega,c2,by rw[(late c c1).1];omega⟩
   · rcases gs.each (i+1) hi with kb | op
     · exact ⟨i+1,Nat.le_refl _,kb,by rw[own.1];omega⟩
     · have:=op.1;omega
 · rw[JW,xS]
   by_cases w:a.ar+q.aI*((S.g (i+1)).time - a.time)≤(S.g (i+1)).ar
   · exact ⟨e,by omega,e2,by rw[(late e e1).2];omega⟩
   · rcases gs.each (i+1) hi with kb | op
     · exact ⟨i+1,Nat.le_refl _,kb,by rw[own.2];omega⟩
     · have:=op.2;omega
 · intro k hk kb
   rw[TN,JW,xS]
   rcases Nat.lt_or_eq_of_le hk with h | h
   · have:=late k o!;have:=ha.all k o! kb;omega
   · subst h;have:=own;omega
theorem X7 {i:Nat} (hi:i+1<S.length) {a b:Gate} (ht:a.time=(S.g i).time) (hu:b.time=(S.g (i+1)).time) (ha:DZ q.aK q.aI S (· ≤i) a) (hb:DZ q.aK q.aI S (· <S.length) b):DZ q.aK q.aI S (· <S.length) (X5 q a b)∧(X5 q a b).time=(S.g i).time:=by
 have T0:=gs.time i o!;have T1:=gs.time (i+1) hi;have T2:=gs.order i (i+1) o! hi
 obtain ⟨c,c1,c2,c3⟩:=ha.aX
 obtain ⟨e,e1,e2,e3⟩:=ha.aG
 obtain ⟨c',c1',c2',c3'⟩:=hb.aX
 obtain ⟨e',e1',e2',e3'⟩:=hb.aG
 have bc:=E3 f0 f1 r0 r1 c2 (t:=a.time) o! o!
 have be:=E3 f0 f1 r0 r1 e2 (t:=a.time) o! o!
 have bc':=E3 f0 f1 r0 r1 c2' (t:=b.time) o! o!
 have be':=E3 f0 f1 r0 r1 e2' (t:=b.time) o! o!
 obtain ⟨m1,m2⟩:=ji f0 f1 (x:=b.time - a.time) o! o!
 obtain ⟨m3,m4⟩:=ji r0 r1 (x:=b.time - a.time) o! o!
 have TN:(X5 q a b).ax=max a.ax (b.ax - q.aI*(b.time - a.time)):=by
  simp only[X5,bE,um]
  rw[wrap_i64 (n:=b.time - a.time) o! o!,wrap_i64 (n:=q.aI*(b.time - a.time)) o! o!,wrap_i64 (n:=b.ax - q.aI*(b.time - a.time)) o! o!]
 have JW:(X5 q a b).ar=min a.ar (b.ar+q.aK*(b.time - a.time)):=by
  simp only[X5,bE,uk]
  rw[wrap_i64 (n:=b.time - a.time) o! o!,wrap_i64 (n:=q.aK*(b.time - a.time)) o! o!,wrap_i64 (n:=b.ar+q.aK*(b.time - a.time)) o! o!]
 have xS:(X5 q a b).time=a.time:=rfl
 have back:∀k,i<k→k<S.length→(gM q.aK q.aI (kn (S.g k)) a.time).aX=(gM q.aK q.aI (kn (S.g k)) b.time).aX - q.aI*(b.time - a.time)∧(gM q.aK q.aI (kn (S.g k)) a.time).aG=(gM q.aK q.aI (kn (S.g k)) b.time).aG+q.aK*(b.time - a.time):=fun k h1 h2=>by
  have o1:=gs.order (i+1) k o! h2
  have e1:b.time≤(kn (S.g k)).time:=by show b.time≤(S.g k).time;omega
  unfold gM
  by_cases w1:(kn (S.g k)).time≤a.time
  · have w2:(kn (S.g k)).time≤b.time:=by omega
    have w3:b.time=a.time:=by omega
    rw[if_pos w1,if_pos w2,w3]
    simp only[Int.sub_self,Int.mul_zero,Int.sub_zero,Int.add_zero,and_self]
  · rw[if_neg w1]
    by_cases w2:(kn (S.g k)).time≤b.time
    · have w3:(kn (S.g k)).time=b.time:=by omega
      rw[if_pos w2,w3]
      simp only[Int.sub_self,Int.mul_zero,Int.sub_zero,Int.add_zero,and_self]
    · rw[if_neg w2]
      simp only[Int.mul_sub]
      omega
 have abD:∀k,k≤i→(gM q.aK q.aI (kn (S.g k)) b.time).aX=(gM q.aK q.aI (kn (S.g k)) a.time).aX - q.aK*(b.time - a.time)∧(gM q.aK q.aI (kn (S.g k)) b.time).aG=(gM q.aK q.aI (kn (S.g k)) a.time).aG+q.aI*(b.time - a.time):=fun k hk=>by
  have o1:=gs.order k i hk o!
  have h1:(kn (S.g k)).time≤a.time:=by show (S.g k).time≤a.time;omega
  have h2:(kn (S.g k)).time≤b.time:=by omega
  unfold gM
  rw[if_pos h1,if_pos h2]
  simp only[Int.mul_sub]
  omega
 refine ⟨⟨?_,?_,?_⟩,by rw[xS];exact ht⟩
 · rw[TN,xS]
   by_cases w:b.ax - q.aI*(b.time - a.time)≤a.ax
   · exact ⟨c,by omega,c2,by omega⟩
   · by_cases w2:c'≤i
     · have:=abD c' w2;have:=ha.all c' w2 c2';omega
     · exact ⟨c',c1',c2',by rw[(back c' o! c1').1];omega⟩
 · rw[JW,xS]
   by_cases w:a.ar≤b.ar+q.aK*(b.time - a.time)
   · exact ⟨e,by omega,e2,by omega⟩
   · by_cases w2:e'≤i
     · have:=abD e' w2;have:=ha.all e' w2 e2';omega
     · exact ⟨e',e1',e2',by rw[(back e' o! e1').2];omega⟩
 · intro k hk kb
   rw[TN,JW,xS]
   by_cases w:k≤i
   · have:=ha.all k w kb;have:=abD k w;have:=hb.all k hk kb;omega
   · have:=back k o! hk;have:=hb.all k hk kb
     have:=ha.aX;have:=ha.aG
     omega
end
end
end Go.Proofs.aH
