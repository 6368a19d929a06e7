import Derived.Test.YtemlmndojncekaaGreatW0
import Derived.Test.YtemlmndojncekaaGreatW8
import Derived.Test.YtemlmndojncekaaGreatW2
import Derived.Test.YtemlmndojncekaaGreatW1
import Derived.Test.YtemlmndojncekaaGreatW3
namespace Go.Proofs.aQ
open Go.Proofs Ab
noncomputable section
set_option maxRecDepth 100000
set_option maxHeartbeats 4000000
set_option linter.unusedVariables false
set_option linter.unusedSimpArgs false
theorem eI {p:Prop} (h:p:=by first | omega | assumption | exact (Rj tqk.toNat o!).1 | exact fun q hq=>(OI q hq).1):p:=h
theorem Ao {p:Prop} (h:p:=by first | omega | exact ⟨Mk fG.1,Fm fG.2 (eb_ o!).2⟩):p:=h
theorem Ap {p:Prop} (h:p:=by first | assumption | exact ij ch o!):p:=h
theorem uM {p:Prop} (h:p:=by first | omega | (simp<;>omega)):p:=h
def uN:Code:=(Tryz.f53.body).getD .skip
theorem J9:Tryz.f53.body=some uN:=by kernel_rfl
def Pm:Code:=(bw uN).getD 0 .skip
def Pn:Code:=(bw uN).getD 1 .skip
def bH (j:cx) (au:List Int) (tqk:Int):Nat→Nat→Int→Int
 | 0,_,l8=>l8
 | dq+1,i0,l8=>bH j au tqk dq (i0+1) (imax l8 (cW j au ((j.ab.g tqk.toNat).aB.g i0)))
theorem B4 {d:Nat} {h:aC} (tqk:Int) (j:cx) (pqN:Nat) (sqN:Nat) (tqN:Nat) (tqF:Bool) (az:List Bool) (au:List Int) (aX:List Tl) (cA:Int) (bk:Nat) (cG:Nat) (gS:Nat) (jj:Nat) (sc:Nat) (bx:aW h j.aw j.ab) (cZ:aW h j.ao j.af) (fj:b8 h .i64 3 (j.ab.g tqk.toNat).aU (j.ab.g tqk.toNat).aB) (m5:((j.ab.g tqk.toNat).name).length<2^60) (z5:aW h (j.ab.g tqk.toNat).a_ (j.ab.g tqk.toNat).aA) (g5:aR.ok h j) (GW:aR.ok h (j.ab.g tqk.toNat)) (hF:0≤tqk) (je:tqk<(j.ab.length:Int)) (mI:az.length=j.ab.length) (nq:au.length=j.ab.length) (pF:∀q,q<(j.ab.g tqk.toNat).aA.length→0≤((j.ab.g tqk.toNat).aA.g q).ah∧((j.ab.g tqk.toNat).aA.g q).ah<(aX.length:Int)) (pY:∀a,a<(j.ab.g tqk.toNat).aA.length→∀b,a<b→b<(j.ab.g tqk.toNat).aA.length→((j.ab.g tqk.toNat).aA.g a).ah≠((j.ab.g tqk.toNat).aA.g b).ah) (z6:∀i,i<j.ab.length→∀q,q<(j.ab.g i).aB.length→0≤(j.ab.g i).aB.g q∧(j.ab.g i).aB.g q<(j.ab.length:Int)) (C6:∀i,i<j.ab.length→0≤(j.ab.g i).takes∧(j.ab.g i).takes≤100000) (Ez:∀i,i<au.length→0≤au.g i∧au.g i+(j.ab.g i).takes≤100000) (IA:∀q,q<(j.ab.g tqk.toNat).aA.length→rp 159 (aX.g (Int.toNat ((j.ab.g tqk.toNat).aA.g q).ah))∧aax (aX.g (Int.toNat ((j.ab.g tqk.toNat).aA.g q).ah))) (yZ:0≤cA) (Po:cA≤100000) (Pp:(j.ab.g tqk.toNat).aA.length≤1000000) (aaA:sqN=au.length) (aaB:aX.length=tqN):∀(k_ i_:Nat) (l8:Int) (_:i_+k_=((j.ab.g tqk.toNat).aB.length)) (_:(0≤l8∧l8≤100000)) (x:Nat→AV) (hh:aC) (aI:Tidy hh) (aE:Has h hh) (br:hh.get bk=some (aM.cells [j.aw,j.ao,(AV.slice gS 0 pqN pqN false),(AV.slice jj 0 sqN sqN false),(AV.slice sc 0 tqN tqN tqF)] 78 false)) (dK:hh.get cG=some (aM.cells [(AV.str (j.ab.g tqk.toNat).name),(Zi (j.ab.g tqk.toNat).takes),(j.ab.g tqk.toNat).aU,(j.ab.g tqk.toNat).a_] 40 false)) (kA:hh.get gS=some (aM.cells (bs az) 4 false)) (mh:hh.get jj=some (aM.cells (zs .i64 au) 3 false)) (EA:hh.get sc=some (aM.cells (jV aX) 128 false)),cE (cN (d+3)) Pm ⟨((x 0)::(Zi tqk)::(Zi l8)::(Pt bk)::rx x 4 3 ((Pt cG)::rx x 8 13 (((j.ab.g tqk.toNat).aU)::(Zn (j.ab.g tqk.toNat).aB.length)::(Zn i_)::rx x 24 49 []))),hh,[],.no⟩ (.exit 0) hh (fun r y=>((y 0)::(Zi tqk)::(Zi r)::(Pt bk)::rx y 4 3 ((Pt cG)::rx y 8 13 (((j.ab.g tqk.toNat).aU)::(Zn (j.ab.g tqk.toNat).aB.length)::rx y 23 50 [])))) (fun r=>(0≤r∧r≤100000)) (bH j au tqk k_ i_ l8)
 | 0,i0,l8,fX,fG,x,hh,aI,aE,br,dK,kA,mh,EA=>by
   have q1:(decide (((i0:Nat):Int)<(((j.ab.g tqk.toNat).aB.length:Nat):Int)))=false:=d!
   exact cE.out l8 rfl (pk (d+3) _ _ hh _ hh (VV (bL 3 false false .i64 ((i0:Nat):Int) (((j.ab.g tqk.toNat).aB.length:Nat):Int))<|BB q1<|ZZ) k!) (bE.refl aI) (show (0≤l8∧l8≤100000) from Ao) k!
 | dq+1,i0,l8,fX,fG,x,hh,aI,aE,br,dK,kA,mh,EA=>by
   have gT:=bx.small
   have nz:=cZ.small
   have uw:=fj.small
   have Rf:=z5.small
   have sU:=aI _ _ br
   have Lw:=aI _ _ dK
   have Zk:=aI _ _ kA
   have ac9:=aI _ _ mh
   have amo:=aI _ _ EA
   have nb_:=fun hq=>z6 tqk.toNat o! i0 hq
   have eb_:=fun hq=>R9 Ez C6 o! (nb_ hq).1 (nb_ hq).2
   have q1:(decide (((i0:Nat):Int)<(((j.ab.g tqk.toNat).aB.length:Nat):Int)))=true:=d!
   obtain ⟨p3,q4,cC,_⟩:=(fj.has aE).elem (i:=i0) o!
   have iW:bO env (some (.slice 3)) (some (j.ab.g tqk.toNat).aU) (some (Zn i0))=some (AV.ptr p3 q4):=cC
   have jY:bh env hh 3 (AV.ptr p3 q4)=some (Zi ((j.ab.g tqk.toNat).aB.g i0)):=(fj.has aE).load o! cC
   have k6:=qn (d:=d+2) j au ((j.ab.g tqk.toNat).aB.g i0) (aR.mono aE g5) (b8.own (op:=false) (n:=sqN) k! k! mh l! o!) eI eI eI aI
   have u7:=fi 3 false true i0 1 o!
   exact cE.round (by simp only[bH,aj,ai]) (pk (d+3) _ _ hh _ hh (VV (bL 3 false false .i64 ((i0:Nat):Int) (((j.ab.g tqk.toNat).aB.length:Nat):Int))<|BV q1 iW<|MM jY<|CN 3<|MM (aO 25 0 (AV.agg [j.aw,j.ao]) br k!)<|CC<|MM (aO 26 3 (AV.slice jj 0 sqN sqN false) br k!)<|CC<|EE k6<|CN 2<|VV u7<|CC<|ZZ) k!) (bE.refl aI) _ k! (fun x=>B4 tqk j pqN sqN tqN tqF az au aX cA bk cG gS jj sc bx cZ fj m5 z5 g5 GW hF je mI nq pF pY z6 C6 Ez IA yZ Po Pp aaA aaB dq (i0+1) (imax l8 (cW j au ((j.ab.g tqk.toNat).aB.g i0))) o! (show (0≤(imax l8 (cW j au ((j.ab.g tqk.toNat).aB.g i0)))∧(imax l8 (cW j au ((j.ab.g tqk.toNat).aB.g i0)))≤100000) from Ao) x hh aI aE br dK kA mh EA)
def eS (ka:Nat) (j:cx) (tqk:Int):Nat→Nat→List Cl→List Cl
 | 0,_,pR=>pR
 | o8+1,i1,pR=>(bif (decide (0<((j.ab.g tqk.toNat).takes))) then eS ka j tqk o8 (i1+1) (pR++([(⟨ka,0+(((j.ab.g tqk.toNat).aA.g i1).ah).toNat*324,((j.ab.g tqk.toNat).aA.g i1).aJ⟩:Cl)])) else eS ka j tqk o8 (i1+1) pR)
theorem uO {d:Nat} {h:aC} (tqk:Int) (j:cx) (au:List Int) (cA:Int) (pqN:Nat) (sqN:Nat) (tqN:Nat) (tqF:Bool) (az:List Bool) (aX:List Tl) (cU:Nat) (dt:Nat) (iJ:Nat) (iT:Nat) (ka:Nat) (eM:aW h j.aw j.ab) (eR:aW h j.ao j.af) (ny:aW h (j.ab.g tqk.toNat).a_ (j.ab.g tqk.toNat).aA) (mN:((j.ab.g tqk.toNat).name).length<2^60) (IZ:b8 h .i64 3 (j.ab.g tqk.toNat).aU (j.ab.g tqk.toNat).aB) (mZ:aR.ok h j) (Iy:aR.ok h (j.ab.g tqk.toNat)) (pH:0≤tqk) (qP:tqk<(j.ab.length:Int)) (qQ:az.length=j.ab.length) (vG:au.length=j.ab.length) (EK:∀q,q<(j.ab.g tqk.toNat).aA.length→0≤((j.ab.g tqk.toNat).aA.g q).ah∧((j.ab.g tqk.toNat).aA.g q).ah<(aX.length:Int)) (Hq:∀a,a<(j.ab.g tqk.toNat).aA.length→∀b,a<b→b<(j.ab.g tqk.toNat).aA.length→((j.ab.g tqk.toNat).aA.g a).ah≠((j.ab.g tqk.toNat).aA.g b).ah) (Wj:∀i,i<j.ab.length→∀q,q<(j.ab.g i).aB.length→0≤(j.ab.g i).aB.g q∧(j.ab.g i).aB.g q<(j.ab.length:Int)) (R':∀i,i<j.ab.length→0≤(j.ab.g i).takes∧(j.ab.g i).takes≤100000) (adJ:∀i,i<au.length→0≤au.g i∧au.g i+(j.ab.g i).takes≤100000) (aaC:∀q,q<(j.ab.g tqk.toNat).aA.length→rp 159 (aX.g (Int.toNat ((j.ab.g tqk.toNat).aA.g q).ah))∧aax (aX.g (Int.toNat ((j.ab.g tqk.toNat).aA.g q).ah))) (afb:0≤cA) (afc:cA≤100000) (afd:(j.ab.g tqk.toNat).aA.length≤1000000) (afe:tqN=aX.length) (aff:aX.length=tqN) (ch:Tidy h) (cO:h.get cU=some (aM.cells [j.aw,j.ao,(AV.slice iJ 0 pqN pqN false),(AV.slice iT 0 sqN sqN false),(AV.slice ka 0 tqN tqN tqF)] 78 false)) (dA:h.get dt=some (aM.cells [(AV.str (j.ab.g tqk.toNat).name),(Zi (j.ab.g tqk.toNat).takes),(j.ab.g tqk.toNat).aU,(j.ab.g tqk.toNat).a_] 40 false)) (sj:h.get iJ=some (aM.cells (bs az) 4 false)) (sm:h.get iT=some (aM.cells (zs .i64 au) 3 false)) (EN:h.get ka=some (aM.cells (jV aX) 128 false)):∀(k_ i_:Nat) (pR:List Cl) (z1:AV) (_:i_+k_=((j.ab.g tqk.toNat).aA.length)) (x:Nat→AV) (hh:aC) (aI:Tidy hh) (aE:Has h hh) (gC:h.nx≤hh.nx) (ZM:rX h hh z1 pR) (aaD:∀y∈pR,aR.ok hh y) (lz1:pR.length≤i_),nm (cN (d+3)) Pn ⟨((x 0)::(Zi tqk)::(Zi (bH j au tqk (j.ab.g tqk.toNat).aB.length 0 cA))::(Pt cU)::rx x 4 3 ((Pt dt)::(x 8)::(x 9)::z1::rx x 11 26 (((j.ab.g tqk.toNat).a_)::(Zn (j.ab.g tqk.toNat).aA.length)::(Zn i_)::rx x 40 33 []))),hh,[],.no⟩ (.exit 2) h (fun r z y=>((y 0)::(Zi tqk)::(Zi (bH j au tqk (j.ab.g tqk.toNat).aB.length 0 cA))::(Pt cU)::rx y 4 3 ((Pt dt)::(y 8)::(y 9)::z::rx y 11 26 (((j.ab.g tqk.toNat).a_)::(Zn (j.ab.g tqk.toNat).aA.length)::rx y 39 34 [])))) (fun r=>r) (j.ab.g tqk.toNat).aA.length (eS ka j tqk k_ i_ pR)
 | 0,i1,pR,z1,fX,x,hh,aI,aE,gC,ZM,aaD,lz1=>by
   have q1:(decide (((i1:Nat):Int)<(((j.ab.g tqk.toNat).aA.length:Nat):Int)))=false:=d!
   exact nm.out pR z1 rfl (pk (d+3) _ _ hh _ hh (VV (bL 3 false false .i64 ((i1:Nat):Int) (((j.ab.g tqk.toNat).aA.length:Nat):Int))<|BB q1<|ZZ) k!) ⟨aI,aE,by omega⟩ ZM aaD uM k!
 | o8+1,i1,pR,z1,fX,x,hh,aI,aE,gC,ZM,aaD,lz1=>by
   have qR:=eM.small
   have r7:=eR.small
   have L_:=ny.small
   have ahl:=IZ.small
   have Iz:=ch _ _ cO
   have Q_:=ch _ _ dA
   have akv:=ch _ _ sj
   have akw:=ch _ _ sm
   have am3:=ch _ _ EN
   have ur_:=EK i1
   have q1:(decide (((i1:Nat):Int)<(((j.ab.g tqk.toNat).aA.length:Nat):Int)))=true:=d!
   obtain ⟨p3,q4,cC⟩:=(ny.has aE).elem (i:=i1) o!
   have iW:bO env (some (.slice 83)) (some (j.ab.g tqk.toNat).a_) (some (Zn i1))=some (AV.ptr p3 q4):=cC
   have jY:bh env hh 83 (AV.ptr p3 q4)=some (AV.agg [(Zi ((j.ab.g tqk.toNat).aA.g i1).ah),(Zi ((j.ab.g tqk.toNat).aA.g i1).aJ)]):=(ny.has aE).load o! cC
   obtain ⟨h6,mK,ji,zU,mL,bU⟩:=jE aI (aM.cells [(Zi 0),(Zi 0)] 83 false)
   have hZ:Has hh h6:=bU
   obtain ⟨h7,l7,eP,vH,fH,bp⟩:=n5 (t:=83) (n:=2) (i:=hh.nx) (L:=[(Zi ((j.ab.g tqk.toNat).aA.g i1).ah),(Zi ((j.ab.g tqk.toNat).aA.g i1).aJ)]) ji mL k! rfl rfl (by simp only[AV.cells,List.all_cons,List.all_nil,Bool.and_true,Bool.and_self,gr,eO,gu,gv,dG,jK,jL,jM,jN,jO,gz])
   have dm:Has hh h7:=Has.dg hZ bp aI o!
   have dJ:=fun {al ps} (k:Pk al _ ps)=>(VV (bL 3 false false .i64 ((i1:Nat):Int) (((j.ab.g tqk.toNat).aA.length:Nat):Int))<|BV q1 iW<|MM jY<|NN mK (fun i=>(Pt i))<|SS l7<|CC<|MM (aO 3 1 (Zi (j.ab.g tqk.toNat).takes) (bp _ _ o! (bU _ _ (aE _ _ dA))) k!)<|VV (dw 3 false true .i64 (j.ab.g tqk.toNat).takes 0)<|k:Pk _ [] ps)
   rcases Bool.eq_false_or_eq_true (decide (0<((j.ab.g tqk.toNat).takes))) with f1 | f1
   · have fP:=of_decide_eq_true f1
     have ix9:bO env (some (.slice 128)) (some (AV.slice ka 0 tqN tqN tqF)) (some (Zi ((j.ab.g tqk.toNat).aA.g i1).ah))=some (AV.ptr ka (0+(((j.ab.g tqk.toNat).aA.g i1).ah).toNat*324)):=Bh (z:=324) (k:=(((j.ab.g tqk.toNat).aA.g i1).ah).toNat) k! o! o!
     obtain ⟨sX,OA,mi,Zl,D5,nA⟩:=jE eP (aM.cells [(AV.func 110 [(AV.ptr ka (0+(((j.ab.g tqk.toNat).aA.g i1).ah).toNat*324))] []),(Zi ((j.ab.g tqk.toNat).aA.g i1).aJ)] 190 false)
     have jZ:Has hh sX:=dm.trans nA
     obtain ⟨z12,m4,Ry,mj,ZO,T9,agR,am4⟩:=rX.app (tys:= #[187,187]) (l:=pR) (m:=[(⟨ka,0+(((j.ab.g tqk.toNat).aA.g i1).ah).toNat*324,((j.ab.g tqk.toNat).aA.g i1).aJ⟩:Cl)]) (x:=(AV.slice h7.nx 0 1 1 false)) mi ch (aE.trans jZ) o! (ZM.has jZ) rfl (Gv (x:=(⟨ka,0+(((j.ab.g tqk.toNat).aA.g i1).ah).toNat*324,((j.ab.g tqk.toNat).aA.g i1).aJ⟩:Cl)) D5) (by simp [aR.c,Cl.c,AV.scalar]) uM rfl rfl k! k! (bytes:=16) k! (z0:=(AV.agg [AV.nilFunc,(Zi 0)])) k! rfl (by decide)
     have ahm:∀y∈(pR++([(⟨ka,0+(((j.ab.g tqk.toNat).aA.g i1).ah).toNat*324,((j.ab.g tqk.toNat).aA.g i1).aJ⟩:Cl)])),aR.ok m4 y:=TD (D:=Cl) (agh (ac0 jZ aaD) (ok_one trivial))
     have u14:=fi 3 false true i1 1 o!
     exact nm.round (by simp only[eS,f1,aj,ai]) (pk (d+3) _ _ hh _ m4 (dJ<|BB f1<|CN 2<|MM (aO 76 4 (AV.slice ka 0 tqN tqN tqF) (bp _ _ o! (bU _ _ (aE _ _ cO))) k!)<|CC<|MM (aO 3 0 (Zi ((j.ab.g tqk.toNat).aA.g i1).ah) fH k!)<|VV ix9<|CN 2<|MM (aO 3 1 (Zi ((j.ab.g tqk.toNat).aA.g i1).aJ) fH k!)<|CC<|NN OA (fun i=>(AV.slice i 0 1 1 false))<|PP (show du env sX #[187,187] z1 (AV.slice h7.nx 0 1 1 false)=some (z12,m4) from Ry)<|CC<|HH (aO 76 4 (AV.slice ka 0 tqN tqN tqF) (nA _ _ (bp _ _ o! (bU _ _ (aE _ _ cO)))) k!)<|HH (show AV.same 20 (AV.slice ka 0 tqN tqN tqF) (AV.slice ka 0 tqN tqN tqF)=true from jv 19 _ _ _ _ _)<|HH (aO 3 0 (Zi ((j.ab.g tqk.toNat).aA.g i1).ah) (nA _ _ fH) k!)<|HH (show AV.same 20 (Zi ((j.ab.g tqk.toNat).aA.g i1).ah) (Zi ((j.ab.g tqk.toNat).aA.g i1).ah)=true from aS 19 _ _)<|HH (aO 3 1 (Zi ((j.ab.g tqk.toNat).aA.g i1).aJ) (nA _ _ fH) k!)<|HH (show AV.same 20 (Zi ((j.ab.g tqk.toNat).aA.g i1).aJ) (Zi ((j.ab.g tqk.toNat).aA.g i1).aJ)=true from aS 19 _ _)<|HH (show ∃o,sX.get h7.nx=some o∧aM.same o (aM.cells [(AV.func 110 [(AV.ptr ka (0+(((j.ab.g tqk.toNat).aA.g i1).ah).toNat*324))] []),(Zi ((j.ab.g tqk.toNat).aA.g i1).aJ)] 190 false)=true from ⟨_,D5,by simp [aM.same,eD,AV.same]⟩)<|VV u14<|CC<|ZZ) k!) _ k! (fun x=>uO tqk j au cA pqN sqN tqN tqF az aX cU dt iJ iT ka eM eR ny mN IZ mZ Iy pH qP qQ vG EK Hq Wj R' adJ aaC afb afc afd afe aff ch cO dA sj sm EN o8 (i1+1) (pR++([(⟨ka,0+(((j.ab.g tqk.toNat).aA.g i1).ah).toNat*324,((j.ab.g tqk.toNat).aA.g i1).aJ⟩:Cl)])) z12 o! x m4 mj T9 o! agR ahm uM)
   · have u9:=fi 3 false true i1 1 o!
     exact nm.round (by simp only[eS,f1,aj,ai]) (pk (d+3) _ _ hh _ h7 (dJ<|BV f1 u9<|CC<|ZZ) k!) _ k! (fun x=>uO tqk j au cA pqN sqN tqN tqF az aX cU dt iJ iT ka eM eR ny mN IZ mZ Iy pH qP qQ vG EK Hq Wj R' adJ aaC afb afc afd afe aff ch cO dA sj sm EN o8 (i1+1) pR z1 o! x h7 eP (aE.trans dm) o! (ZM.has dm) (TD (D:=Cl) aaD) uM)
theorem xG {j:cx} {tqk:Int} {tqB:Nat}:∀(k i:Nat) (v:List Cl),i+k=(j.ab.g tqk.toNat).aA.length→eS tqB j tqk k i v=v++bif decide (0<(j.ab.g tqk.toNat).takes) then ((j.ab.g tqk.toNat).aA.drop i).map (fun u=>(⟨tqB,0+u.ah.toNat*324,u.aJ⟩:Cl)) else []
 | 0,i,v,h=>by
   rw[eS,List.drop_eq_nil_of_le o!]
   cases decide (0<(j.ab.g tqk.toNat).takes)<;>simp
 | k+1,i,v,h=>by
   rw[eS]
   cases c:decide (0<(j.ab.g tqk.toNat).takes) with
   | true=>rw[aj,xG k (i+1) _ o!,c,aj,aj,C7 (show i<(j.ab.g tqk.toNat).aA.length by omega),List.map_cons,List.append_assoc];rfl
   | false=>rw[ai,xG k (i+1) _ o!,c,ai,ai]
theorem Pq {j:cx} {tqk:Int} {tqB:Nat}:(eS tqB j tqk (j.ab.g tqk.toNat).aA.length 0 []).length=nL j tqk∧∀i,i<(eS tqB j tqk (j.ab.g tqk.toNat).aA.length 0 []).length→i<(j.ab.g tqk.toNat).aA.length∧(eS tqB j tqk (j.ab.g tqk.toNat).aA.length 0 []).g i=⟨tqB,0+(Int.toNat ((j.ab.g tqk.toNat).aA.g i).ah)*324,((j.ab.g tqk.toNat).aA.g i).aJ⟩:=by
 rw[xG _ 0 _ o!,List.nil_append,List.drop_zero,nL]
 cases decide (0<(j.ab.g tqk.toNat).takes) with
 | true=>
   rw[aj,aj]
   refine ⟨List.length_map _,fun i hi=>?_⟩
   rw[List.length_map] at hi
   refine ⟨hi,?_⟩
   exact aku hi
 | false=>exact ⟨rfl,fun i hi=>absurd hi (by simp)⟩
def b9 (j:cx) (az:List Bool) (au:List Int) (aX:List Tl) (tqk:Int) (cA:Int):Bool×List Bool×List Int×List Tl:=(bif (decide (100000<((fo (nL j tqk) (asks j aX tqk) (bH j au tqk (j.ab.g tqk.toNat).aB.length 0 cA))+((j.ab.g tqk.toNat).takes)))) then (false,az,au,aX) else (true,(fR j az au aX tqk (fo (nL j tqk) (asks j aX tqk) (bH j au tqk (j.ab.g tqk.toNat).aB.length 0 cA))).1,(fR j az au aX tqk (fo (nL j tqk) (asks j aX tqk) (bH j au tqk (j.ab.g tqk.toNat).aB.length 0 cA))).2.1,(fR j az au aX tqk (fo (nL j tqk) (asks j aX tqk) (bH j au tqk (j.ab.g tqk.toNat).aB.length 0 cA))).2.2))
theorem Wk {d:Nat} {h hh:aC} {aZ pqN bf sqN tqB tqN:Nat} {tqF:Bool} (j:cx) (az:List Bool) (au:List Int) (aX:List Tl) (tqk:Int) (cA:Int) (bV:aR.ok h j) (b6:hh.get aZ=some (aM.cells (bs az) 4 false)) (s4:az.length=pqN) (wR:h.get aZ=none) (cj:hh.get bf=some (aM.cells (zs .i64 au) 3 false)) (wV:au.length=sqN) (wX:h.get bf=none) (eA:hh.get tqB=some (aM.cells (jV aX) 128 false)) (JS:aX.length=tqN) (JT:h.get tqB=none) (l6:0≤tqk) (om:tqk<(j.ab.length:Int)) (yD:az.length=j.ab.length) (zR:au.length=j.ab.length) (Ex:∀q,q<(j.ab.g tqk.toNat).aA.length→0≤((j.ab.g tqk.toNat).aA.g q).ah∧((j.ab.g tqk.toNat).aA.g q).ah<(aX.length:Int)) (Ri:∀a,a<(j.ab.g tqk.toNat).aA.length→∀b,a<b→b<(j.ab.g tqk.toNat).aA.length→((j.ab.g tqk.toNat).aA.g a).ah≠((j.ab.g tqk.toNat).aA.g b).ah) (pre6:∀i,i<j.ab.length→∀q,q<(j.ab.g i).aB.length→0≤(j.ab.g i).aB.g q∧(j.ab.g i).aB.g q<(j.ab.length:Int)) (Rj:∀i,i<j.ab.length→0≤(j.ab.g i).takes∧(j.ab.g i).takes≤100000) (Zt:∀i,i<au.length→0≤au.g i∧au.g i+(j.ab.g i).takes≤100000) (OI:∀q,q<(j.ab.g tqk.toNat).aA.length→rp 159 (aX.g (Int.toNat ((j.ab.g tqk.toNat).aA.g q).ah))∧aax (aX.g (Int.toNat ((j.ab.g tqk.toNat).aA.g q).ah))) (an9:0≤cA) (aoa:cA≤100000) (aob:(j.ab.g tqk.toNat).aA.length≤1000000) (Zu:bf≠aZ) (ajU:tqB≠aZ) (ajV:tqB≠bf) (ch:Tidy h) (aI:Tidy hh) (aE:Has h hh) (gC:h.nx≤hh.nx):∃hk,cN (d+4) (.fn 53) [(AV.agg [j.aw,j.ao,(AV.slice aZ 0 pqN pqN false),(AV.slice bf 0 sqN sqN false),(AV.slice tqB 0 tqN tqN tqF)]),(Zi tqk),(Zi cA)] hh= .ret (AV.bool (b9 j az au aX tqk cA).1) hk∧Tidy hk∧hh.nx≤hk.nx∧Has h hk∧hk.get aZ=some (aM.cells (bs (b9 j az au aX tqk cA).2.1) 4 false)∧((b9 j az au aX tqk cA).2.1).length=pqN∧hk.get bf=some (aM.cells (zs .i64 (b9 j az au aX tqk cA).2.2.1) 3 false)∧((b9 j az au aX tqk cA).2.2.1).length=sqN∧hk.get tqB=some (aM.cells (jV (b9 j az au aX tqk cA).2.2.2) 128 false)∧((b9 j az au aX tqk cA).2.2.2).length=tqN:=by
 have kb:=bV.1.small
 have kf:=bV.2.small
 have wY:=aI _ _ b6
 have wZ:=aI _ _ cj
 have JU:=aI _ _ eA
 obtain ⟨h1,di,cS,jU,bm,bP⟩:=jE aI (aM.cells [j.aw,j.ao,(AV.slice aZ 0 pqN pqN false),(AV.slice bf 0 sqN sqN false),(AV.slice tqB 0 tqN tqN tqF)] 78 false)
 have bA:Has h h1:=aE.trans bP
 obtain ⟨p3,q4,cC⟩:=bV.1.elem (i:=tqk.toNat) o!
 have iW:bO env (some (.slice 40)) (some j.aw) (some (Zi tqk))=some (AV.ptr p3 q4):=by rw[show (tqk:Int)=((tqk.toNat:Nat):Int) by omega];exact cC
 have jY:bh env h1 40 (AV.ptr p3 q4)=some (AV.agg [(AV.str (j.ab.g tqk.toNat).name),(Zi (j.ab.g tqk.toNat).takes),(j.ab.g tqk.toNat).aU,(j.ab.g tqk.toNat).a_]):=(bV.1.has bA).load o! cC
 obtain ⟨h6,mK,ji,zU,mL,bU⟩:=jE cS (aM.cells [(AV.str []),(Zi 0),AV.aG,AV.aG] 40 false)
 have hZ:Has h h6:=bA.trans bU
 have Lx:AV.scalar (j.ab.g tqk.toNat).aU=true:=((bV.1.ok (i:=tqk.toNat) o!).2.1).scalar
 have Rl:AV.scalar (j.ab.g tqk.toNat).a_=true:=((bV.1.ok (i:=tqk.toNat) o!).2.2).scalar
 obtain ⟨h7,l7,eP,vH,fH,bp⟩:=n5 (t:=40) (n:=4) (i:=h1.nx) (L:=[(AV.str (j.ab.g tqk.toNat).name),(Zi (j.ab.g tqk.toNat).takes),(j.ab.g tqk.toNat).aU,(j.ab.g tqk.toNat).a_]) ji mL k! rfl rfl (by simp only[AV.cells,List.all_cons,List.all_nil,Bool.and_true,Bool.and_self,gr,eO,gu,gv,dG,jK,jL,jM,jN,jO,gz,Lx,Rl])
 have dm:Has h h7:=Has.dg hZ bp ch o!
 have tg:cb (some (.slice 3)) (some (j.ab.g tqk.toNat).aU)=some (Zn (j.ab.g tqk.toNat).aB.length):=((bV.1.ok (i:=tqk.toNat) o!).2.1).len
 obtain ⟨iK,kV,nM,ct,aaE⟩:=B4 (d:=d) (h:=h) tqk j pqN sqN tqN tqF az au aX cA hh.nx h1.nx aZ bf tqB bV.1 bV.2 (bV.1.ok (i:=tqk.toNat) o!).2.1 (bV.1.ok (i:=tqk.toNat) o!).1 (bV.1.ok (i:=tqk.toNat) o!).2.2 bV (bV.1.ok (i:=tqk.toNat) o!) o! o! o! o! (by assumption) (by assumption) (by assumption) (by assumption) (by assumption) (by assumption) o! o! o! o! o! (j.ab.g tqk.toNat).aB.length 0 cA o! (show (0≤cA∧cA≤100000) from Ao) (fun k_=>(((AV.agg [j.aw,j.ao,(AV.slice aZ 0 pqN pqN false),(AV.slice bf 0 sqN sqN false),(AV.slice tqB 0 tqN tqN tqF)])::(Zi tqk)::(Zi cA)::(Pt hh.nx)::AV.undef::AV.undef::(AV.bool false)::(Pt h1.nx)::AV.undef::AV.undef::AV.undef::AV.undef::AV.undef::AV.undef::(Pt hh.nx)::(Pt hh.nx)::j.aw::(Zi tqk)::(AV.ptr p3 q4)::(AV.agg [(AV.str (j.ab.g tqk.toNat).name),(Zi (j.ab.g tqk.toNat).takes),(j.ab.g tqk.toNat).aU,(j.ab.g tqk.toNat).a_])::(AV.ptr h1.nx 2)::((j.ab.g tqk.toNat).aU)::(Zn (j.ab.g tqk.toNat).aB.length)::(Zi 0)::jX 49):List AV).getD k_ AV.undef) h7 eP dm (bp _ _ o! (bU _ _ bm)) fH (bp _ _ o! (bU _ _ (bP _ _ b6))) (bp _ _ o! (bU _ _ (bP _ _ cj))) (bp _ _ o! (bU _ _ (bP _ _ eA)))
 have jk:=ct.y
 have GX:h7.nx≤kV.nx:=ct.n
 have fJ:Has h kV:=dm.trans ct.a
 have GP:cb (some (.slice 83)) (some (j.ab.g tqk.toNat).a_)=some (Zn (j.ab.g tqk.toNat).aA.length):=((bV.1.ok (i:=tqk.toNat) o!).2.2).len
 obtain ⟨am5,amk,Ly,Lz,mX,am6,adK,am7⟩:=uO (d:=d) (h:=kV) tqk j au cA pqN sqN tqN tqF az aX hh.nx h1.nx aZ bf tqB (bV.1.has fJ) (bV.2.has fJ) ((bV.1.ok (i:=tqk.toNat) o!).2.2.has fJ) (bV.1.ok (i:=tqk.toNat) o!).1 ((bV.1.ok (i:=tqk.toNat) o!).2.1.has fJ) (aR.mono fJ bV) (aR.mono fJ (bV.1.ok (i:=tqk.toNat) o!)) o! o! o! o! (by assumption) (by assumption) (by assumption) (by assumption) (by assumption) (by assumption) o! o! o! o! o! jk (ct.a _ _ (bp _ _ o! (bU _ _ bm))) (ct.a _ _ fH) (ct.a _ _ (bp _ _ o! (bU _ _ (bP _ _ b6)))) (ct.a _ _ (bp _ _ o! (bU _ _ (bP _ _ cj)))) (ct.a _ _ (bp _ _ o! (bU _ _ (bP _ _ eA)))) (j.ab.g tqk.toNat).aA.length 0 ([]) AV.aG o! (fun k_=>(((iK 0)::(Zi tqk)::(Zi (bH j au tqk (j.ab.g tqk.toNat).aB.length 0 cA))::(Pt hh.nx)::rx iK 4 3 ((Pt h1.nx)::(iK 8)::(iK 9)::AV.aG::rx iK 11 10 (((j.ab.g tqk.toNat).aU)::(Zn (j.ab.g tqk.toNat).aB.length)::rx iK 23 13 ((AV.ptr h1.nx 3)::((j.ab.g tqk.toNat).a_)::(Zn (j.ab.g tqk.toNat).aA.length)::(Zi 0)::rx iK 40 33 [])))):List AV).getD k_ AV.undef) kV jk (Has.refl _) (Nat.le_refl _) (.inl ⟨.inl rfl,rfl⟩) (fun y hy=>by cases hy) (Nat.zero_le _)
 have alh:(eS tqB j tqk (j.ab.g tqk.toNat).aA.length 0 ([])).length≤((j.ab.g tqk.toNat).aA.length):=am7
 have adL:aW Ly am5 (eS tqB j tqk (j.ab.g tqk.toNat).aA.length 0 ([])):=rX.rows am6 o! adK
 have vj:=mX.y
 have ajF:kV.nx≤Ly.nx:=mX.n
 have D6:Has h Ly:=fJ.trans mX.a
 have aiy:Has kV Ly:=mX.a
 have kt_:=Rj tqk.toNat o!
 have xH:=Pq (j:=j) (tqk:=tqk) (tqB:=tqB)
 have aaF:∀i,i<(eS tqB j tqk (j.ab.g tqk.toNat).aA.length 0 ([])).length→∀f:Int,0≤f→f≤1000000→(asks j aX tqk) i f≤1000000:=fun i hi f _ hf=>aay (OI i (xH.2 i hi).1).2 hf
 have k19:=Eg (d:=d+2) (bH j au tqk (j.ab.g tqk.toNat).aB.length 0 cA) (j.ab.g tqk.toNat).takes (eS tqB j tqk (j.ab.g tqk.toNat).aA.length 0 ([])) (asks j aX tqk) adL (fun i hi f hh _ _ yy aa=>by rw[(xH.2 i hi).2];exact VQ (fit (aX.g (Int.toNat ((j.ab.g tqk.toNat).aA.g i).ah)).l) tqB (0+(Int.toNat ((j.ab.g tqk.toNat).aA.g i).ah)*324) f (j.ab.g tqk.toNat).takes ((j.ab.g tqk.toNat).aA.g i).aJ (Ls (aa _ _ (mX.a _ _ (ct.a _ _ (bp _ _ o! (bU _ _ (bP _ _ eA)))))) (by have u_:=Ex i (xH.2 i hi).1;omega)) (by rw[(Bo (by have u_:=Ex i (xH.2 i hi).1;omega)).2];omega) (uv _) (by have t_:=(OI i (xH.2 i hi).1).1.1;omega) (by have t_:=(OI i (xH.2 i hi).1).1.2.1;omega) yy) aaF o! o! vj
 rw[ae9,xH.1] at k19
 have ahn:=afa (n:=(eS tqB j tqk (j.ab.g tqk.toNat).aA.length 0 ([])).length) (f:=(bH j au tqk (j.ab.g tqk.toNat).aB.length 0 cA)) aaF o! o!
 rw[xH.1] at ahn
 have w20:IntKind.i64.wrap ((fo (nL j tqk) (asks j aX tqk) (bH j au tqk (j.ab.g tqk.toNat).aB.length 0 cA))+((j.ab.g tqk.toNat).takes))=(fo (nL j tqk) (asks j aX tqk) (bH j au tqk (j.ab.g tqk.toNat).aB.length 0 cA))+((j.ab.g tqk.toNat).takes):=wrap_i64 o! o!
 have hX:=fun {al ps} (k:Pk al _ ps)=>(NN di (fun i=>(Pt i))<|CN 3<|MM (aO 22 0 j.aw bm k!)<|CC<|VV iW<|MM jY<|NN mK (fun i=>(Pt i))<|SS l7<|CC<|MM (aO 26 2 (j.ab.g tqk.toNat).aU fH k!)<|VV tg<|CC<|LL nM<|CN 2<|MM (aO 38 3 (j.ab.g tqk.toNat).a_ (ct.a _ _ fH) k!)<|VV GP<|CC<|LL Lz<|CN 2<|MM (aO 3 1 (Zi (j.ab.g tqk.toNat).takes) (mX.a _ _ (ct.a _ _ fH)) k!)<|CC<|EE k19<|CN 3<|MM (aO 3 1 (Zi (j.ab.g tqk.toNat).takes) (mX.a _ _ (ct.a _ _ fH)) k!)<|VV (qG 3 false false w20)<|VV (dw 3 false true .i64 ((fo (nL j tqk) (asks j aX tqk) (bH j au tqk (j.ab.g tqk.toNat).aB.length 0 cA))+((j.ab.g tqk.toNat).takes)) 100000)<|k:Pk _ [] ps)
 rcases Bool.eq_false_or_eq_true (decide (100000<((fo (nL j tqk) (asks j aX tqk) (bH j au tqk (j.ab.g tqk.toNat).aB.length 0 cA))+((j.ab.g tqk.toNat).takes)))) with f0 | f0
 · have jf:=of_decide_eq_true f0
   have e:b9 j az au aX tqk cA=(false,az,au,aX):=by simp only[b9,f0,aj,ai]
   rw[e]
   exact gB rfl (bb Tryz.func53 J9 rfl (.inr rfl) (pk (d+3) _ _ hh _ Ly (hX<|BC f0<|ZZ) k!) k!) aI vj o! ⟨D6,(mX.a _ _ (ct.a _ _ (bp _ _ o! (bU _ _ (bP _ _ b6))))),l!,(mX.a _ _ (ct.a _ _ (bp _ _ o! (bU _ _ (bP _ _ cj))))),l!,(mX.a _ _ (ct.a _ _ (bp _ _ o! (bU _ _ (bP _ _ eA))))),l!⟩ (fun q=>⟨aE,dc q b6 (mX.a _ _ (ct.a _ _ (bp _ _ o! (bU _ _ (bP _ _ b6))))),l!,dc q cj (mX.a _ _ (ct.a _ _ (bp _ _ o! (bU _ _ (bP _ _ cj))))),l!,dc q eA (mX.a _ _ (ct.a _ _ (bp _ _ o! (bU _ _ (bP _ _ eA))))),l!⟩)
 · have jf:=of_decide_eq_false f0
   obtain ⟨am8,aho,ali,adM,adN,Ml⟩:=dz vj (mX.a _ _ (ct.a _ _ (bp _ _ o! (bU _ _ (bP _ _ b6)))))
   have ahp:Has h am8:=bG D6 Ap Ml
   obtain ⟨akx,ahq,alj,adO,adP,Mm⟩:=dz aho ((Ml _ o!).trans (mX.a _ _ (ct.a _ _ (bp _ _ o! (bU _ _ (bP _ _ cj))))))
   have Wl:akx.get aZ=none:=(Mm _ o!).trans adM
   have ahr:Has h akx:=bG ahp Ap Mm
   obtain ⟨adQ,ahs,alk,adR,adS,Mn⟩:=dz ahq ((Mm _ o!).trans ((Ml _ o!).trans (mX.a _ _ (ct.a _ _ (bp _ _ o! (bU _ _ (bP _ _ eA)))))))
   have Wm:adQ.get aZ=none:=(Mn _ o!).trans Wl
   have Wn:adQ.get bf=none:=(Mn _ o!).trans adO
   have aaG:Has h adQ:=bG ahr Ap Mn
   obtain ⟨h25,aky,akz,aoc,aht,Uq,alm,Ur,aln,Us,alo⟩:=TU (d:=d) (h:=adQ) (pqN:=pqN) (sqN:=sqN) (tqN:=tqN) (tqF:=tqF) j az au aX tqk (fo (nL j tqk) (asks j aX tqk) (bH j au tqk (j.ab.g tqk.toNat).aB.length 0 cA)) (aR.mono aaG bV) (mX.a _ _ (ct.a _ _ (bp _ _ o! (bU _ _ (bP _ _ b6))))) l! Wm (mX.a _ _ (ct.a _ _ (bp _ _ o! (bU _ _ (bP _ _ cj))))) l! Wn (mX.a _ _ (ct.a _ _ (bp _ _ o! (bU _ _ (bP _ _ eA))))) l! adR eI eI eI eI eI eI eI eI eI eI o! o! o! ahs vj (adS.trans (adP.trans adN)) o!
   have am9:=OQ j az au aX tqk (fo (nL j tqk) (asks j aX tqk) (bH j au tqk (j.ab.g tqk.toNat).aB.length 0 cA)) eI eI eI eI
   have akA:Has h h25:=(aaG.trans aht)
   have e:b9 j az au aX tqk cA=(true,(fR j az au aX tqk (fo (nL j tqk) (asks j aX tqk) (bH j au tqk (j.ab.g tqk.toNat).aB.length 0 cA))).1,(fR j az au aX tqk (fo (nL j tqk) (asks j aX tqk) (bH j au tqk (j.ab.g tqk.toNat).aB.length 0 cA))).2.1,(fR j az au aX tqk (fo (nL j tqk) (asks j aX tqk) (bH j au tqk (j.ab.g tqk.toNat).aB.length 0 cA))).2.2):=by simp only[b9,f0,aj,ai]
   rw[e]
   exact gB rfl (bb Tryz.func53 J9 rfl (.inr rfl) (pk (d+3) _ _ hh _ h25 (hX<|BM f0 (aO 78 0 (AV.agg [j.aw,j.ao,(AV.slice aZ 0 pqN pqN false),(AV.slice bf 0 sqN sqN false),(AV.slice tqB 0 tqN tqN tqF)]) (mX.a _ _ (ct.a _ _ (bp _ _ o! (bU _ _ bm)))) k!)<|CN 2<|EE aky<|CC<|ZZ) k!) k!) aI akz o! ⟨akA,Uq,l!,Ur,l!,Us,l!⟩ (fun q=>⟨aE,dc q b6 Uq,l!,dc q cj Ur,l!,dc q eA Us,l!⟩)
theorem Pr {P:Nat→Int→Int} {n:Nat} (hB:∀i,i<n→∀f:Int,0≤f→f≤1000000→P i f≤1000000) {bad:Int→Prop} (hs:∀i,i<n→∀f m:Int,0≤f→f≤1000000→f≤m→m<P i f→bad m):∀(k:Nat) (f:Int),0≤f→f≤1000000→1000001 - f≤k→(∀q,q<n→P q (R8 P n k f)≤R8 P n k f)∧(∀m,f≤m→m<R8 P n k f→bad m)
 | 0,f,a,b,c=>by omega
 | k+1,f,a,b,c=>by
   rw[R8]
   cases e:W9 P f n 0 with
   | none=>exact ⟨fun q hq=>Pl e q (Nat.zero_le _) o!,fun m x (y:m<f)=>by omega⟩
   | some r=>
     obtain ⟨q,_,hq,er,g⟩:=B3 e
     have:=hB q o! f a b
     have ih:=Pr hB hs k r o! o! o!
     refine ⟨ih.1,fun m x y=>?_⟩
     by_cases z:m<r
     · exact hs q o! f m a b x o!
     · exact ih.2 m o! y
theorem adT {P:Nat→Int→Int} {n:Nat} (hB:∀i,i<n→∀f:Int,0≤f→f≤1000000→P i f≤1000000) {bad:Int→Prop} (hs:∀i,i<n→∀f m:Int,0≤f→f≤1000000→f≤m→m<P i f→bad m) {f:Int} (a:0≤f) (b:f≤1000000):(∀q,q<n→P q (fo n P f)≤fo n P f)∧(∀m,f≤m→m<fo n P f→bad m):=Pr hB hs _ f a b o!
section
variable {j:cx} {s:List Int} {p:List Bool}
theorem B5 (F:b5 j) {T:List Tl} {k:Nat} (I:INV j p s k T) (hk:k≤64) {i u:Nat} (hi:i<j.ab.length) (hu:u<(j.ab.g i).aA.length) {f:Int} (f0:0≤f) (f1:f≤1000000):
 f≤asks j T (i:Int) u f∧asks j T (i:Int) u f≤1000000∧((∀x,f≤x→x<asks j T (i:Int) u f→100001<x+(j.ab.g i).takes∨∃m,x≤m∧m<x+(j.ab.g i).takes∧¬W7 j p s i u m)∨(j.ab.g i).takes=0)∧∀m,asks j T (i:Int) u f≤m→m<asks j T (i:Int) u f+(j.ab.g i).takes→m<100001→W7 j p s i u m:=by
 have ur:=F.ur i hi u hu
 have um:=F.um i hi u hu
 have tk:=F.tk i hi
 have rs:=F.rs (Int.toNat ((j.ab.g i).aA.g u).ah) o!
 obtain ⟨n,B,hn,lv,mk⟩:=I.2 (Int.toNat ((j.ab.g i).aA.g u).ah) o!
 have sp:=Ro B.is (takes:=(j.ab.g i).takes) (pieces:=((j.ab.g i).aA.g u).aJ) f0 f1 tk.1 tk.2 B.f fun q hq=>by
  have:=B.u q hq
  omega
 rw[asks,Int.toNat_natCast,rZ B.is.len]
 rw[mk] at sp
 refine ⟨sp.1,sp.2.2.2,?_,fun m a b c=>?_⟩
 · rcases sp.2.1 with h | h
   · refine .inl fun x a b=>?_
     rcases h x a b with g | ⟨m,g1,g2,g3,g4⟩
     · exact .inl g
     · refine .inr ⟨m,g1,g2,fun o=>?_⟩
       rw[lv m o!] at g4
       unfold W7 at o
       omega
   · exact .inr h
 · have:=sp.2.2.1 m a b c
   rw[lv m o!] at this
   exact this
theorem ahu (F:b5 j) (T:Tm j s) {n:Int} (h0:0≤n) (h1:n<(j.ab.length:Int)):cW j s n=s.g (Int.toNat n)+(j.ab.g (Int.toNat n)).takes:=by
 have t:=T (Int.toNat n) o!
 have tk:=F.tk (Int.toNat n) o!
 rw[cW,wrap_i64 o! o!]
theorem adU {a b x:Int}:imax a b≤x↔a≤x∧b≤x:=by unfold imax;split<;>omega
theorem Ps (F:b5 j) (T:Tm j s) {i:Nat} (hi:i<j.ab.length) (x:Int):∀(k a:Nat) (v:Int),a+k=(j.ab.g i).aB.length→(bH j s (i:Int) k a v≤x↔v≤x∧∀q,a≤q→q<a+k→s.g (Int.toNat ((j.ab.g i).aB.g q))+(j.ab.g (Int.toNat ((j.ab.g i).aB.g q))).takes≤x)
 | 0,a,v,h=>⟨fun z=>⟨z,fun q x y=>by omega⟩,fun z=>z.1⟩
 | k+1,a,v,h=>by
   have nb:=F.nb i hi a o!
   rw[bH,Int.toNat_natCast,ahu F T nb.1 nb.2,Ps F T hi x k (a+1) _ o!,adU]
   refine ⟨fun z=>⟨z.1.1,fun q h1 h2=>?_⟩,fun z=>⟨⟨z.1,z.2 a (Nat.le_refl _) o!⟩,fun q h1 h2=>z.2 q o! o!⟩⟩
   by_cases e:q=a
   · rw[e];exact z.1.2
   · exact z.2 q o! o!
def W_ (j:cx) (s:List Int) (T:List Tl) (i:Nat):Int:=fo (nL j (i:Int)) (asks j T (i:Int)) (bH j s (i:Int) (j.ab.g i).aB.length 0 0)
def Rdy (j:cx) (p:List Bool) (i:Nat):Prop:=∀q,q<(j.ab.g i).aB.length→p.g (Int.toNat ((j.ab.g i).aB.g q))=true
theorem Wo (F:b5 j) (T:Tm j s) {A:List Tl} {k:Nat} (I:INV j p s k A) (hk:k≤64) {i:Nat} (hi:i<j.ab.length) (rd:Rdy j p i):0≤W_ j s A i∧(W_ j s A i+(j.ab.g i).takes≤100000→gF j s p (i:Int) (W_ j s A i)=true)∧∀x,gF j s p (i:Int) x=true→W_ j s A i≤x:=by
 have tk:=F.tk i hi
 have f0:0≤bH j s (i:Int) (j.ab.g i).aB.length 0 0:=((Ps F T hi _ _ 0 0 (Nat.zero_add _)).1 (Int.le_refl _)).1
 have f1:bH j s (i:Int) (j.ab.g i).aB.length 0 0≤100000:=(Ps F T hi _ _ 0 0 (Nat.zero_add _)).2 ⟨by decide,fun q _ hq=>by
  have nb:=F.nb i hi q o!
  exact (T _ o!).2⟩
 have no:∀x,NO j p s i x↔∀q,0≤q→q<0+(j.ab.g i).aB.length→s.g (Int.toNat ((j.ab.g i).aB.g q))+(j.ab.g (Int.toNat ((j.ab.g i).aB.g q))).takes≤x:=fun x=>⟨fun h q _ hq=>h q o! (rd q o!),fun h q hq _=>h q (Nat.zero_le _) o!⟩
 have na:∀q,q<nL j (i:Int)→0<(j.ab.g i).takes∧q<(j.ab.g i).aA.length:=fun q hq=>by
  unfold nL at hq
  rw[Int.toNat_natCast] at hq
  by_cases c:0<(j.ab.g i).takes
  · rw[decide_eq_true c] at hq;exact ⟨c,hq⟩
  · rw[decide_eq_false c] at hq;exact absurd hq (Nat.not_lt_zero _)
 obtain ⟨g1,g2⟩:=adT (P:=asks j A (i:Int)) (n:=nL j (i:Int)) (bad:=fun x=>x+(j.ab.g i).takes≤100000→¬RM j p s i x) (fun q hq f h0 h1=>(B5 F I hk hi (na q hq).2 h0 h1).2.1) (fun q hq f m h0 h1 h2 h3 h4 rm=>by
  have a:=B5 F I hk hi (na q hq).2 h0 h1
  rcases a.2.2.1 with b | b
  · rcases b m h2 h3 with c | ⟨m',c1,c2,c3⟩
    · omega
    · exact c3 (rm (na q hq).1 q (na q hq).2 m' c1 c2)
  · have:=(na q hq).1;omega) f0 (by omega:bH j s (i:Int) (j.ab.g i).aB.length 0 0≤1000000)
 have g3:=afa (P:=asks j A (i:Int)) (n:=nL j (i:Int)) (fun q hq f h0 h1=>(B5 F I hk hi (na q hq).2 h0 h1).2.1) f0 (by omega:bH j s (i:Int) (j.ab.g i).aB.length 0 0≤1000000)
 show 0≤fo _ _ _∧(fo _ _ _+_≤100000→gF j s p (i:Int) (fo _ _ _)=true)∧∀x,gF j s p (i:Int) x=true→fo _ _ _≤x
 generalize kO:fo (nL j (i:Int)) (asks j A (i:Int)) (bH j s (i:Int) (j.ab.g i).aB.length 0 0)=st at *
 refine ⟨by omega,fun h=>?_,fun x hx=>?_⟩
 · refine (B1 F T hi st).2 ⟨⟨by omega,h⟩,(no st).2 ((Ps F T hi st _ 0 0 (Nat.zero_add _)).1 g3.1).2,fun ht u hu m m0 m1=>?_⟩
   have hn:u<nL j (i:Int):=by
    unfold nL
    rw[Int.toNat_natCast,decide_eq_true ht];exact hu
   have a:=B5 F I hk hi hu (f:=st) o! g3.2
   have b:=g1 u hn
   exact a.2.2.2 m o! o! o!
 · obtain ⟨⟨x0,x1⟩,x2,x3⟩:=(B1 F T hi x).1 hx
   have:=(Ps F T hi x _ 0 0 (Nat.zero_add _)).2 ⟨x0,(no x).1 x2⟩
   by_cases z:x<st
   · exact absurd x3 (g2 x this z x1)
   · omega
end
theorem hU.wo {e:TypeId} {g h hw:aC} {z:AV} {L:List AV} {b:Nat} (o:hU e g h z L) (ke:∀i,i≠b→hw.get i=h.get i) (hb:b<g.nx):hU e g hw z L:=o.imp id fun ⟨hn,p,op,e,h1,q⟩=>⟨hn,p,op,e,h1,(ke p o!).trans q⟩
def QI (j:cx) (i:Int) (T:List Tl):Prop:=T.length=j.af.length∧∀r,r<j.af.length→∃n:Nat,qT (T.g r).l n (1000*(16+i)) 100001∧(n:Int)≤33+2*i
theorem QI.ok {j:cx} {i:Int} {T:List Tl} (Q:QI j i T) {r:Nat} (hr:r<j.af.length) (hi:i≤63):rp 159 (T.g r)∧aax (T.g r):=by
 obtain ⟨n,B,hn⟩:=Q.2 r hr
 have hf:fit (T.g r).l=(T.g r).l:=rZ B.is.len
 refine ⟨?_,fun k=>?_⟩
 · unfold rp
   rw[hf,B.is.cn]
   have:=B.is.lo
   exact ⟨by omega,by omega,B.is.zero⟩
 · rw[hf,ZB B.is]
   split
   · rename_i h;have:=B.f (k+1) h;omega
   · decide
theorem QI.put {j:cx} {i:Int} {T:List Tl} (Q:QI j i T) (hi:i≤63) (h0:0≤i) (a:List Bool) (b:List Int) {tqk g6:Int} (F:∀q,q<(j.ab.g (Int.toNat tqk)).aA.length→0≤((j.ab.g (Int.toNat tqk)).aA.g q).ah∧((j.ab.g (Int.toNat tqk)).aA.g q).ah<(T.length:Int)) (ud:∀a,a<(j.ab.g (Int.toNat tqk)).aA.length→∀b,a<b→b<(j.ab.g (Int.toNat tqk)).aA.length→((j.ab.g (Int.toNat tqk)).aA.g a).ah≠((j.ab.g (Int.toNat tqk)).aA.g b).ah) (um:∀q,q<(j.ab.g (Int.toNat tqk)).aA.length→0≤((j.ab.g (Int.toNat tqk)).aA.g q).aJ∧((j.ab.g (Int.toNat tqk)).aA.g q).aJ≤1000) (s0:0≤g6) (s1:g6+(j.ab.g (Int.toNat tqk)).takes≤100000):QI j (i+1) (fR j a b T tqk g6).2.2:=by
 rw[z9]
 show QI j (i+1) (ew T (j.ab.g (Int.toNat tqk)).aA ⟨g6,g6+(j.ab.g (Int.toNat tqk)).takes - 1⟩)
 refine ⟨by rw[G7];exact Q.1,fun r hr=>?_⟩
 obtain ⟨n,B,hn⟩:=Q.2 r hr
 have hd:=LJ (fun q hq=>(F q hq).1) ud
 have hf:fit (T.g r).l=(T.g r).l:=rZ B.is.len
 rcases LI (sp:=⟨g6,g6+(j.ab.g (Int.toNat tqk)).takes - 1⟩) (r:=r) _ T hd (fun u hu=>by
  obtain ⟨q,hq,e⟩:=BA hu
  have:=F q hq
  rw[e] at this;omega) with ⟨u,hu,er,g⟩ | ⟨H_,g⟩
 · rw[g,hf]
   obtain ⟨q,hq,e⟩:=BA hu
   have m:=um q hq
   rw[e] at m
   obtain ⟨n',x1,x2,x3,x4⟩:=LH B o! (s:=⟨g6,g6+(j.ab.g (Int.toNat tqk)).takes - 1⟩) (p:=u.aJ) s0 (by dsimp only;omega) o! o!
   exact ⟨n',x1.up o!,by omega⟩
 · rw[g];exact ⟨n,B.up o!,by omega⟩
theorem QI.up {j:cx} {i:Int} {T:List Tl} (Q:QI j i T):QI j (i+1) T:=⟨Q.1,fun r hr=>by
 obtain ⟨n,B,hn⟩:=Q.2 r hr
 exact ⟨n,B.up o!,by omega⟩⟩
theorem afg {j:cx} (F:b5 j):QI j 0 (aK j).1:=by
 have I:=Mi (s:=[]) F
 exact ⟨I.1,fun r hr=>by
  obtain ⟨n,B,hn,_,_⟩:=I.2 r hr
  exact ⟨n,B,by omega⟩⟩
theorem HA (j:cx) (az:List Bool) (au:List Int) (aX:List Tl) (tqk cA:Int) (F:b5 j) (t0:0≤tqk) (t1:tqk<(j.ab.length:Int)) (hl:au.length=j.ab.length) (ht:aX.length=j.af.length) (f0:0≤cA) (f1:cA≤100000) (sb:∀i,i<au.length→0≤au.g i∧au.g i+(j.ab.g i).takes≤100000):
 (∀i,i<au.length→0≤(b9 j az au aX tqk cA).2.2.1.g i∧(b9 j az au aX tqk cA).2.2.1.g i+(j.ab.g i).takes≤100000)∧∀i:Int,0≤i→i≤63→QI j i aX→QI j (i+1) (b9 j az au aX tqk cA).2.2.2:=by
 have hi:Int.toNat tqk<j.ab.length:=by omega
 have fr:∀k i (v:Int),i+k=(j.ab.g (Int.toNat tqk)).aB.length→0≤v→v≤100000→0≤bH j au tqk k i v∧bH j au tqk k i v≤100000:=by
  intro k
  induction k with
  | zero=>intro i v _ a b;exact ⟨a,b⟩
  | succ k ih=>
    intro i v e a b
    have nb:=F.nb _ hi i o!
    have eb:=R9 sb F.tk hl nb.1 nb.2
    rw[bH]
    exact ih (i+1) _ o! (Mk a) (Fm b eb.2)
 have f:=fr (j.ab.g (Int.toNat tqk)).aB.length 0 cA o! f0 f1
 rw[b9]
 by_cases c:100000<fo (nL j tqk) (asks j aX tqk) (bH j au tqk (j.ab.g (Int.toNat tqk)).aB.length 0 cA)+(j.ab.g (Int.toNat tqk)).takes
 · rw[decide_eq_true c,aj]
   exact ⟨sb,fun i _ _ Q=>Q.up⟩
 · rw[decide_eq_false c,ai]
   have lo:=akt (n:=nL j tqk) (P:=asks j aX tqk) (bH j au tqk (j.ab.g (Int.toNat tqk)).aB.length 0 cA)
   generalize fo (nL j tqk) (asks j aX tqk) (bH j au tqk (j.ab.g (Int.toNat tqk)).aB.length 0 cA)=st at *
   refine ⟨fun i hi=>?_,fun i h0 h1 Q=>?_⟩
   · show 0≤(fR j az au aX tqk st).2.1.g i∧(fR j az au aX tqk st).2.1.g i+(j.ab.g i).takes≤100000
     rw[z9]
     by_cases e:Int.toNat tqk=i
     · subst e
       rw[show ((au.set (Int.toNat tqk) st).g (Int.toNat tqk))=st from g7 o!];omega
     · rw[show ((au.set (Int.toNat tqk) st).g i)=au.g i from bn e _];exact sb i hi
   · exact Q.put h1 h0 az au (fun q hq=>by have:=F.ur _ hi q hq;omega) (F.ud _ hi) (fun q hq=>by
      have a:=F.um _ hi q hq
      have b:=F.ur _ hi q hq
      have c:=(F.rs (Int.toNat ((j.ab.g (Int.toNat tqk)).aA.g q).ah) o!).2.2
      omega) o! o!
theorem HB {oqd:List Int} {ts:List Task}:∀(k i:Nat) (v:List Int) (a:List Bool),(cz oqd ts k i v a).1.length≤v.length+1
 | 0,i,v,a=>by rw[cz];exact Nat.le_succ _
 | k+1,i,v,a=>by
   rw[cz]
   cases lj ts a (oqd.g i) with
   | true=>rw[aj];simp
   | false=>exact HB (oqd:=oqd) (ts:=ts) k (i+1) v a
theorem HC {oqd:List Int} {ts:List Task}:∀(k i:Nat) (v:List Int) (a:List Bool),(da oqd ts k i v a).1.length≤v.length+k
 | 0,i,v,a=>Nat.le_refl _
 | k+1,i,v,a=>by
   rw[da]
   have x:=HC (oqd:=oqd) (ts:=ts) k (i+1) (cz oqd ts oqd.length 0 v a).1 (cz oqd ts oqd.length 0 v a).2
   have y:=HB (oqd:=oqd) (ts:=ts) oqd.length 0 v a
   omega
theorem J_ {oqd:List Int} {ts:List Task} {Q:Int→Prop} (ho:∀q,q<oqd.length→Q (oqd.g q)):∀(k i:Nat) (v:List Int) (a:List Bool),i+k=oqd.length→(∀x∈v,Q x)→∀x∈(cz oqd ts k i v a).1,Q x
 | 0,i,v,a,_,hv=>by rw[cz];exact hv
 | k+1,i,v,a,e,hv=>by
   rw[cz]
   cases lj ts a (oqd.g i) with
   | true=>
     rw[aj]
     intro x hx
     rcases List.mem_append.1 hx with h | h
     · exact hv x h
     · rw[List.mem_singleton.1 h];exact ho i o!
   | false=>exact J_ ho k (i+1) v a o! hv
theorem J' {oqd:List Int} {ts:List Task} {Q:Int→Prop} (ho:∀q,q<oqd.length→Q (oqd.g q)):∀(k i:Nat) (v:List Int) (a:List Bool),(∀x∈v,Q x)→∀x∈(da oqd ts k i v a).1,Q x
 | 0,i,v,a,hv=>hv
 | k+1,i,v,a,hv=>by
   rw[da]
   exact J' ho k (i+1) _ _ (J_ ho _ 0 v a (Nat.zero_add _) hv)
theorem rf (ts:List Task) (oqd:List Int) (az:List Bool) (ho:∀q,q<oqd.length→0≤oqd.g q∧oqd.g q<(ts.length:Int)):(aL ts oqd az).length≤oqd.length∧∀q,q<(aL ts oqd az).length→0≤(aL ts oqd az).g q∧(aL ts oqd az).g q<(ts.length:Int):=by
 refine ⟨?_,fun q hq=>?_⟩
 · have:=HC (oqd:=oqd) (ts:=ts) oqd.length 0 [] (cm az)
   rw[List.length_nil] at this
   rw[aL];omega
 · exact J' (Q:=fun x=>0≤x∧x<(ts.length:Int)) ho oqd.length 0 [] (cm az) (fun x h=>by cases h) _ (Hy hq)
theorem Ut {j:cx} {st S1:List Int} {T T':List Tl} {v:Int} (p:(∀i,i<st.length→0≤S1.g i∧S1.g i+(j.ab.g i).takes≤100000)∧∀i:Int,0≤i→i≤63→QI j i T→QI j (i+1) T') (hl:S1.length=st.length) (q:QI j v T) (h0:0≤v) (h1:v≤63):(∀ii,ii<S1.length→0≤S1.g ii∧S1.g ii+(j.ab.g ii).takes≤100000)∧QI j (v+1) T':=
 ⟨fun ii hi=>p.1 ii o!,p.2 v h0 h1 q⟩
theorem b5.uf {j:cx} (F:b5 j) {i:Nat} (hi:i<j.ab.length):(j.ab.g i).aA.length≤1000000:=by
 have:=aaz (n:=j.af.length) (LJ (fun q hq=>(F.ur i hi q hq).1) (F.ud i hi)) fun u hu=>by
  obtain ⟨q,hq,e⟩:=BA hu
  have:=F.ur i hi q hq
  rw[e] at this;omega
 have:=F.nr
 omega
def Eh:Code:=(Tryz.f60.body).getD .skip
theorem aaH:Tryz.f60.body=some Eh:=by kernel_rfl
def Aq:Code:=(bw Eh).getD 0 .skip
def l9 (j:cx) (az:List Bool) (au:List Int) (tqk:Int) (g6:Int):List Bool×List Int:=((az.set tqk.toNat true),(au.set tqk.toNat g6))
theorem Pu {d:Nat} {h hh:aC} {aZ pqN bf sqN:Nat} (j:cx) (az:List Bool) (au:List Int) (tqk:Int) (g6:Int) (bV:aR.ok h j) (b6:hh.get aZ=some (aM.cells (bs az) 4 false)) (s4:az.length=pqN) (wR:h.get aZ=none) (cj:hh.get bf=some (aM.cells (zs .i64 au) 3 false)) (wV:au.length=sqN) (wX:h.get bf=none) (l6:0≤tqk) (om:tqk<(j.ab.length:Int)) (yD:az.length=j.ab.length) (zR:au.length=j.ab.length) (Ex:((j.ab.g tqk.toNat).aA).length=0) (Zu:bf≠aZ) (ch:Tidy h) (aI:Tidy hh) (aE:Has h hh) (gC:h.nx≤hh.nx):∃hk,cN (d+3) (.fn 60) [(AV.agg [j.aw,j.ao,(AV.slice aZ 0 pqN pqN false),(AV.slice bf 0 sqN sqN false),AV.aG]),(Zi tqk),(Zi g6)] hh= .ret (AV.tuple []) hk∧Tidy hk∧hh.nx≤hk.nx∧Has h hk∧hk.get aZ=some (aM.cells (bs (l9 j az au tqk g6).1) 4 false)∧((l9 j az au tqk g6).1).length=pqN∧hk.get bf=some (aM.cells (zs .i64 (l9 j az au tqk g6).2) 3 false)∧((l9 j az au tqk g6).2).length=sqN:=by
 have kb:=bV.1.small
 have kf:=bV.2.small
 have wY:=aI _ _ b6
 have wZ:=aI _ _ cj
 obtain ⟨h1,di,cS,jU,bm,bP⟩:=jE aI (aM.cells [j.aw,j.ao,(AV.slice aZ 0 pqN pqN false),(AV.slice bf 0 sqN sqN false),AV.aG] 78 false)
 have bA:Has h h1:=aE.trans bP
 obtain ⟨p3,q4,cC⟩:=bV.1.elem (i:=tqk.toNat) o!
 have iW:bO env (some (.slice 40)) (some j.aw) (some (Zi tqk))=some (AV.ptr p3 q4):=by rw[show (tqk:Int)=((tqk.toNat:Nat):Int) by omega];exact cC
 have jY:bh env h1 40 (AV.ptr p3 q4)=some (AV.agg [(AV.str (j.ab.g tqk.toNat).name),(Zi (j.ab.g tqk.toNat).takes),(j.ab.g tqk.toNat).aU,(j.ab.g tqk.toNat).a_]):=(bV.1.has bA).load o! cC
 obtain ⟨h6,mK,ji,zU,mL,bU⟩:=jE cS (aM.cells [(AV.str []),(Zi 0),AV.aG,AV.aG] 40 false)
 have hZ:Has h h6:=bA.trans bU
 have Lx:AV.scalar (j.ab.g tqk.toNat).aU=true:=((bV.1.ok (i:=tqk.toNat) o!).2.1).scalar
 have Rl:AV.scalar (j.ab.g tqk.toNat).a_=true:=((bV.1.ok (i:=tqk.toNat) o!).2.2).scalar
 obtain ⟨h7,l7,eP,vH,fH,bp⟩:=n5 (t:=40) (n:=4) (i:=h1.nx) (L:=[(AV.str (j.ab.g tqk.toNat).name),(Zi (j.ab.g tqk.toNat).takes),(j.ab.g tqk.toNat).aU,(j.ab.g tqk.toNat).a_]) ji mL k! rfl rfl (by simp only[AV.cells,List.all_cons,List.all_nil,Bool.and_true,Bool.and_self,gr,eO,gu,gv,dG,jK,jL,jM,jN,jO,gz,Lx,Rl])
 have dm:Has h h7:=Has.dg hZ bp ch o!
 have Zv:bO env (some (.slice 4)) (some (AV.slice aZ 0 pqN pqN false)) (some (Zi tqk))=some (AV.ptr aZ tqk.toNat):=jc k! (show tqk.toNat<pqN by omega) o!
 obtain ⟨m4,GZ⟩:∃G4:aC,G4=h7.put aZ (some (aM.cells (bs (az.set tqk.toNat true)) 4 false)):=⟨_,rfl⟩
 have OC:dV env h7 4 (AV.ptr aZ tqk.toNat) (AV.bool true)=some m4:=by rw[GZ];exact o6 k! (bp _ _ o! (bU _ _ (bP _ _ b6))) l!
 have h_:Iv h7 m4 aZ (aM.cells (bs (az.set tqk.toNat true)) 4 false):=by rw[GZ];exact jD eP (bp _ _ o! (bU _ _ (bP _ _ b6)))
 have mj:=h_.1
 have aeO:m4.nx=h7.nx:=by rw[GZ];rfl
 have wN:Has h m4:=lf h_ dm (by first | assumption | exact ij ch o!)
 have Rm:bO env (some (.slice 3)) (some (AV.slice bf 0 sqN sqN false)) (some (Zi tqk))=some (AV.ptr bf tqk.toNat):=jc k! (show tqk.toNat<sqN by omega) o!
 obtain ⟨lR,w7⟩:∃G4:aC,G4=m4.put bf (some (aM.cells (zs .i64 (au.set tqk.toNat g6)) 3 false)):=⟨_,rfl⟩
 have vl:dV env m4 3 (AV.ptr bf tqk.toNat) (Zi g6)=some lR:=by rw[w7];exact Bg k! (h_.2.2 _ _ o! (bp _ _ o! (bU _ _ (bP _ _ cj)))) l!
 have ml:Iv m4 lR bf (aM.cells (zs .i64 (au.set tqk.toNat g6)) 3 false):=by rw[w7];exact jD mj (h_.2.2 _ _ o! (bp _ _ o! (bU _ _ (bP _ _ cj))))
 have iQ:=ml.1
 have OJ:lR.nx=m4.nx:=by rw[w7];rfl
 have jl:Has h lR:=lf ml wN (by first | assumption | exact ij ch o!)
 have LD:cb (some (.slice 83)) (some (j.ab.g tqk.toNat).a_)=some (Zn (j.ab.g tqk.toNat).aA.length):=((bV.1.ok (i:=tqk.toNat) o!).2.2).len
 have V2:(decide (0<(((j.ab.g tqk.toNat).aA.length:Nat):Int)))=false:=d!
 have ana:Ev env (cN (d+2)) Aq ⟨((AV.agg [j.aw,j.ao,(AV.slice aZ 0 pqN pqN false),(AV.slice bf 0 sqN sqN false),AV.aG])::(Zi tqk)::(Zi g6)::(Pt hh.nx)::AV.undef::AV.undef::(Pt h1.nx)::AV.undef::AV.undef::(Pt hh.nx)::(Pt hh.nx)::j.aw::(Zi tqk)::(AV.ptr p3 q4)::(AV.agg [(AV.str (j.ab.g tqk.toNat).name),(Zi (j.ab.g tqk.toNat).takes),(j.ab.g tqk.toNat).aU,(j.ab.g tqk.toNat).a_])::(AV.ptr hh.nx 2)::(AV.slice aZ 0 pqN pqN false)::(Zi tqk)::(AV.ptr hh.nx 3)::(AV.slice bf 0 sqN sqN false)::(Zi tqk)::(Zi g6)::(AV.ptr aZ tqk.toNat)::(AV.ptr bf tqk.toNat)::(AV.ptr h1.nx 3)::((j.ab.g tqk.toNat).a_)::(Zn (j.ab.g tqk.toNat).aA.length)::(Zi 0)::jX 19),lR,[],.no⟩ (.exit 0) ⟨((AV.agg [j.aw,j.ao,(AV.slice aZ 0 pqN pqN false),(AV.slice bf 0 sqN sqN false),AV.aG])::(Zi tqk)::(Zi g6)::(Pt hh.nx)::AV.undef::AV.undef::(Pt h1.nx)::AV.undef::AV.undef::(Pt hh.nx)::(Pt hh.nx)::j.aw::(Zi tqk)::(AV.ptr p3 q4)::(AV.agg [(AV.str (j.ab.g tqk.toNat).name),(Zi (j.ab.g tqk.toNat).takes),(j.ab.g tqk.toNat).aU,(j.ab.g tqk.toNat).a_])::(AV.ptr hh.nx 2)::(AV.slice aZ 0 pqN pqN false)::(Zi tqk)::(AV.ptr hh.nx 3)::(AV.slice bf 0 sqN sqN false)::(Zi tqk)::(Zi g6)::(AV.ptr aZ tqk.toNat)::(AV.ptr bf tqk.toNat)::(AV.ptr h1.nx 3)::((j.ab.g tqk.toNat).a_)::(Zn (j.ab.g tqk.toNat).aA.length)::(Zi 0)::(AV.bool (decide (0<(((j.ab.g tqk.toNat).aA.length:Nat):Int))))::jX 18),lR,[],.no⟩:=Ev.to (pk (d+2) Aq ((AV.agg [j.aw,j.ao,(AV.slice aZ 0 pqN pqN false),(AV.slice bf 0 sqN sqN false),AV.aG])::(Zi tqk)::(Zi g6)::(Pt hh.nx)::AV.undef::AV.undef::(Pt h1.nx)::AV.undef::AV.undef::(Pt hh.nx)::(Pt hh.nx)::j.aw::(Zi tqk)::(AV.ptr p3 q4)::(AV.agg [(AV.str (j.ab.g tqk.toNat).name),(Zi (j.ab.g tqk.toNat).takes),(j.ab.g tqk.toNat).aU,(j.ab.g tqk.toNat).a_])::(AV.ptr hh.nx 2)::(AV.slice aZ 0 pqN pqN false)::(Zi tqk)::(AV.ptr hh.nx 3)::(AV.slice bf 0 sqN sqN false)::(Zi tqk)::(Zi g6)::(AV.ptr aZ tqk.toNat)::(AV.ptr bf tqk.toNat)::(AV.ptr h1.nx 3)::((j.ab.g tqk.toNat).a_)::(Zn (j.ab.g tqk.toNat).aA.length)::(Zi 0)::jX 19) lR (.exit 0) lR (VV (bL 3 false false .i64 0 (((j.ab.g tqk.toNat).aA.length:Nat):Int))<|BB V2<|ZZ) k!) k!
 have e:l9 j az au tqk g6=((az.set tqk.toNat true),(au.set tqk.toNat g6)):=by simp only[l9,aj,ai]
 rw[e]
 exact gB rfl (bb Tryz.func60 aaH rfl (.inl rfl) (pk (d+2) _ _ hh _ lR (NN di (fun i=>(Pt i))<|CN 2<|MM (aO 22 0 j.aw bm k!)<|CC<|VV iW<|MM jY<|NN mK (fun i=>(Pt i))<|SS l7<|CC<|MM (aO 75 2 (AV.slice aZ 0 pqN pqN false) (bp _ _ o! (bU _ _ bm)) k!)<|CN 2<|MM (aO 26 3 (AV.slice bf 0 sqN sqN false) (bp _ _ o! (bU _ _ bm)) k!)<|CN 2<|VV Zv<|SS OC<|VV Rm<|SS vl<|HH (aO 75 2 (AV.slice aZ 0 pqN pqN false) (bp _ _ o! (bU _ _ bm)) k!)<|HH (show AV.same 20 (AV.slice aZ 0 pqN pqN false) (AV.slice aZ 0 pqN pqN false)=true from jv 19 _ _ _ _ _)<|HH (aO 26 3 (AV.slice bf 0 sqN sqN false) (bp _ _ o! (bU _ _ bm)) k!)<|HH (show AV.same 20 (AV.slice bf 0 sqN sqN false) (AV.slice bf 0 sqN sqN false)=true from jv 19 _ _ _ _ _)<|HH (aO 26 3 (AV.slice bf 0 sqN sqN false) (h_.2.2 _ _ o! (bp _ _ o! (bU _ _ bm))) k!)<|HH (show AV.same 20 (AV.slice bf 0 sqN sqN false) (AV.slice bf 0 sqN sqN false)=true from jv 19 _ _ _ _ _)<|CC<|MM (aO 38 3 (j.ab.g tqk.toNat).a_ (ml.2.2 _ _ o! (h_.2.2 _ _ o! fH)) k!)<|VV LD<|CC<|LL (show Ev env (cN (d+2)) (.loop Aq) ⟨((AV.agg [j.aw,j.ao,(AV.slice aZ 0 pqN pqN false),(AV.slice bf 0 sqN sqN false),AV.aG])::(Zi tqk)::(Zi g6)::(Pt hh.nx)::AV.undef::AV.undef::(Pt h1.nx)::AV.undef::AV.undef::(Pt hh.nx)::(Pt hh.nx)::j.aw::(Zi tqk)::(AV.ptr p3 q4)::(AV.agg [(AV.str (j.ab.g tqk.toNat).name),(Zi (j.ab.g tqk.toNat).takes),(j.ab.g tqk.toNat).aU,(j.ab.g tqk.toNat).a_])::(AV.ptr hh.nx 2)::(AV.slice aZ 0 pqN pqN false)::(Zi tqk)::(AV.ptr hh.nx 3)::(AV.slice bf 0 sqN sqN false)::(Zi tqk)::(Zi g6)::(AV.ptr aZ tqk.toNat)::(AV.ptr bf tqk.toNat)::(AV.ptr h1.nx 3)::((j.ab.g tqk.toNat).a_)::(Zn (j.ab.g tqk.toNat).aA.length)::(Zi 0)::jX 19),lR,[],.no⟩ (.exit 0) ⟨((AV.agg [j.aw,j.ao,(AV.slice aZ 0 pqN pqN false),(AV.slice bf 0 sqN sqN false),AV.aG])::(Zi tqk)::(Zi g6)::(Pt hh.nx)::AV.undef::AV.undef::(Pt h1.nx)::AV.undef::AV.undef::(Pt hh.nx)::(Pt hh.nx)::j.aw::(Zi tqk)::(AV.ptr p3 q4)::(AV.agg [(AV.str (j.ab.g tqk.toNat).name),(Zi (j.ab.g tqk.toNat).takes),(j.ab.g tqk.toNat).aU,(j.ab.g tqk.toNat).a_])::(AV.ptr hh.nx 2)::(AV.slice aZ 0 pqN pqN false)::(Zi tqk)::(AV.ptr hh.nx 3)::(AV.slice bf 0 sqN sqN false)::(Zi tqk)::(Zi g6)::(AV.ptr aZ tqk.toNat)::(AV.ptr bf tqk.toNat)::(AV.ptr h1.nx 3)::((j.ab.g tqk.toNat).a_)::(Zn (j.ab.g tqk.toNat).aA.length)::(Zi 0)::(AV.bool (decide (0<(((j.ab.g tqk.toNat).aA.length:Nat):Int))))::jX 18),lR,[],.no⟩ from (Ev.out ana))<|ZZ) k!) k!) aI iQ o! ⟨jl,(ml.2.2 _ _ o! h_.2.1),l!,ml.2.1,l!⟩ (fun q=>⟨aE,dc q b6 (ml.2.2 _ _ o! h_.2.1),l!,dc q cj ml.2.1,l!⟩)
theorem Uu (P:Nat→Int→Int) (f:Int):fo 0 P f=f:=by
 unfold fo
 cases Int.toNat (1000001 - f)<;>rfl
theorem aW.nil {α:Type} [aR α] {h:aC}:aW h AV.aG ([]:List α):=rX.rows (h0:=h) (.inl ⟨.inl rfl,rfl⟩) (by rw[List.length_nil];decide) fun y hy=>by cases hy
end
end Go.Proofs.aQ
