import Derived.Test.YtijehnelcbdlgaaGreatW0
import Derived.Test.YtijehnelcbdlgaaGreatW1
import Derived.Test.YtijehnelcbdlgaaGreatW7
import Derived.Test.YtijehnelcbdlgaaGreatW2
import Derived.Test.YtijehnelcbdlgaaGreatW3
namespace Go.Proofs.aM
open Go.Proofs Ab
noncomputable section
set_option maxRecDepth 100000
set_option maxHeartbeats 4000000
set_option linter.unusedVariables false
set_option linter.unusedSimpArgs false
theorem ft {p:Prop} (h:p:=by first | omega | (simp only[List.length_set,List.length_replicate,dQ]<;>omega) | exact hJ _ | exact ku a!):p:=h
theorem e9 {p:Prop} (h:p:=by first | omega | assumption | exact (ab7 tqk.toNat o!).1 | exact fun q hq=>(Un q hq).1):p:=h
theorem BT {p:Prop} (h:p:=by first | omega | exact ⟨Xn du.1,O_ du.2 (eb_ o!).2⟩):p:=h
theorem BU {p:Prop} (h:p:=by first | assumption | exact iZ bM o!):p:=h
theorem wI {p:Prop} (h:p:=by first | omega | (simp<;>omega)):p:=h
def wJ:Code:=(Tryz.f94.body).getD .skip
theorem M4:Tryz.f94.body=some wJ:=by kernel_rfl
def Sg:Code:=(bl wJ).getD 0 .skip
def Sh:Code:=(bl wJ).getD 1 .skip
def bU (j:bP) (aj:List Int) (tqk:Int):Nat→Nat→Int→Int
 | 0,_,Ar=>Ar
 | dx+1,i0,Ar=>bU j aj tqk dx (i0+1) (imax Ar (dk j aj ((j.ab.g tqk.toNat).aD.g i0)))
theorem DM {d:Nat} {h:az} (tqk:Int) (j:bP) (pqN:Nat) (sqN:Nat) (tqN:Nat) (tqF:Bool) (aE:List Bool) (aj:List Int) (aW:List Tl) (fm:Int) (bj:Nat) (cg:Nat) (gF:Nat) (gM:Nat) (iV:Nat) (bp:aO h j.au j.ab) (cC:aO h j.ar j.af) (dq:bT h .i64 3 (j.ab.g tqk.toNat).bh (j.ab.g tqk.toNat).aD) (lG:((j.ab.g tqk.toNat).name).length<2^60) (wy:aO h (j.ab.g tqk.toNat).bo (j.ab.g tqk.toNat).aB) (fI:aK.ok h j) (xW:aK.ok h (j.ab.g tqk.toNat)) (fU:0≤tqk) (iB:tqk<(j.ab.length:Int)) (mO:aE.length=j.ab.length) (nI:aj.length=j.ab.length) (o8:∀q,q<(j.ab.g tqk.toNat).aB.length→0≤((j.ab.g tqk.toNat).aB.g q).ah∧((j.ab.g tqk.toNat).aB.g q).ah<(aW.length:Int)) (qF:∀a,a<(j.ab.g tqk.toNat).aB.length→∀b,a<b→b<(j.ab.g tqk.toNat).aB.length→((j.ab.g tqk.toNat).aB.g a).ah≠((j.ab.g tqk.toNat).aB.g b).ah) (yL:∀i,i<j.ab.length→∀q,q<(j.ab.g i).aD.length→0≤(j.ab.g i).aD.g q∧(j.ab.g i).aD.g q<(j.ab.length:Int)) (Rt:∀i,i<j.ab.length→0≤(j.ab.g i).takes∧(j.ab.g i).takes≤100000) (Ru:∀i,i<aj.length→0≤aj.g i∧aj.g i+(j.ab.g i).takes≤100000) (ab6:∀q,q<(j.ab.g tqk.toNat).aB.length→tq 159 (aW.g (Int.toNat ((j.ab.g tqk.toNat).aB.g q).ah))∧ade (aW.g (Int.toNat ((j.ab.g tqk.toNat).aB.g q).ah))) (Rv:0≤fm) (adh:fm≤100000) (Xo:(j.ab.g tqk.toNat).aB.length≤1000000) (adi:sqN=aj.length) (adj:aW.length=tqN):∀(k_ i_:Nat) (Ar:Int) (_:i_+k_=((j.ab.g tqk.toNat).aD.length)) (_:(0≤Ar∧Ar≤100000)) (x:Nat→AV) (hh:az) (aF:Tidy hh) (aA:Has h hh) (br:hh.get bj=some (aN.cells [j.au,j.ar,(AV.slice gF 0 pqN pqN false),(AV.slice gM 0 sqN sqN false),(AV.slice iV 0 tqN tqN tqF)] 103 false)) (dA:hh.get cg=some (aN.cells [(AV.str (j.ab.g tqk.toNat).name),(Zi (j.ab.g tqk.toNat).takes),(j.ab.g tqk.toNat).bh,(j.ab.g tqk.toNat).bo] 48 false)) (mg:hh.get gF=some (aN.cells (bs aE) 4 false)) (lk:hh.get gM=some (aN.cells (zs .i64 aj) 3 false)) (r_:hh.get iV=some (aN.cells (kL aW) 156 false)),cr (cA (d+3)) Sg ⟨((x 0)::(Zi tqk)::(Zi Ar)::(Pt bj)::rx x 4 3 ((Pt cg)::rx x 8 13 (((j.ab.g tqk.toNat).bh)::(Zn (j.ab.g tqk.toNat).aD.length)::(Zn i_)::rx x 24 49 []))),hh,[],.no⟩ (.exit 0) hh (fun r y=>((y 0)::(Zi tqk)::(Zi r)::(Pt bj)::rx y 4 3 ((Pt cg)::rx y 8 13 (((j.ab.g tqk.toNat).bh)::(Zn (j.ab.g tqk.toNat).aD.length)::rx y 23 50 [])))) (fun r=>(0≤r∧r≤100000)) (bU j aj tqk k_ i_ Ar)
 | 0,i0,Ar,eZ,du,x,hh,aF,aA,br,dA,mg,lk,r_=>by
  have q1:(decide (((i0:Nat):Int)<(((j.ab.g tqk.toNat).aD.length:Nat):Int)))=false:=d!
  exact cr.out Ar rfl (pk (d+3) _ _ hh _ hh (VV (bE 3 false false .i64 ((i0:Nat):Int) (((j.ab.g tqk.toNat).aD.length:Nat):Int))<|BB q1<|ZZ) k!) (Grow.refl aF) (show (0≤Ar∧Ar≤100000) from BT) k!
 | dx+1,i0,Ar,eZ,du,x,hh,aF,aA,br,dA,mg,lk,r_=>by
  have gN:=bp.small
  have mw:=cC.small
  have sX:=dq.small
  have Uk:=wy.small
  have tD:=aF _ _ br
  have Lr:=aF _ _ dA
  have agi:=aF _ _ mg
  have agj:=aF _ _ lk
  have an3:=aF _ _ r_
  have nb_:=fun hq=>yL tqk.toNat o! i0 hq
  have eb_:=fun hq=>adb Ru Rt o! (nb_ hq).1 (nb_ hq).2
  have q1:(decide (((i0:Nat):Int)<(((j.ab.g tqk.toNat).aD.length:Nat):Int)))=true:=d!
  obtain ⟨p3,q4,gh,_⟩:=(dq.has aA).elem (i:=i0) o!
  have kN:=(dq.has aA).load o! gh
  have k6:=qe (d:=d+2) j aj ((j.ab.g tqk.toNat).aD.g i0) (aK.mono aA fI) (bT.own (op:=false) (n:=sqN) k! k! lk ft o!) e9 e9 e9 aF
  have u7:=eA 3 false true i0 1 o!
  exact cr.round (by simp only[bU,ao,ai]) (pk (d+3) _ _ hh _ hh (VV (bE 3 false false .i64 ((i0:Nat):Int) (((j.ab.g tqk.toNat).aD.length:Nat):Int))<|BV q1 gh<|MM kN<|CN 3<|MM (aP 25 0 (AV.agg [j.au,j.ar]) br k!)<|CC<|MM (aP 26 3 (AV.slice gM 0 sqN sqN false) br k!)<|CC<|EE k6<|CN 2<|VV u7<|CC<|ZZ) k!) (Grow.refl aF) _ k! (fun x=>DM tqk j pqN sqN tqN tqF aE aj aW fm bj cg gF gM iV bp cC dq lG wy fI xW fU iB mO nI o8 qF yL Rt Ru ab6 Rv adh Xo adi adj dx (i0+1) (imax Ar (dk j aj ((j.ab.g tqk.toNat).aD.g i0))) o! (show (0≤(imax Ar (dk j aj ((j.ab.g tqk.toNat).aD.g i0)))∧(imax Ar (dk j aj ((j.ab.g tqk.toNat).aD.g i0)))≤100000) from BT) x hh aF aA br dA mg lk r_)
def fu (lF:Nat) (j:bP) (tqk:Int):Nat→Nat→List Cl→List Cl
 | 0,_,rR=>rR
 | nK+1,i1,rR=>(bif (decide (0<((j.ab.g tqk.toNat).takes))) then fu lF j tqk nK (i1+1) (rR++([(⟨lF,0+(((j.ab.g tqk.toNat).aB.g i1).ah).toNat*324,((j.ab.g tqk.toNat).aB.g i1).aI⟩:Cl)])) else fu lF j tqk nK (i1+1) rR)
theorem wK {d:Nat} {h:az} (tqk:Int) (j:bP) (aj:List Int) (fm:Int) (pqN:Nat) (sqN:Nat) (tqN:Nat) (tqF:Bool) (aE:List Bool) (aW:List Tl) (b6:Nat) (dv:Nat) (ie:Nat) (iL:Nat) (lF:Nat) (eP:aO h j.au j.ab) (dW:aO h j.ar j.af) (mr:aO h (j.ab.g tqk.toNat).bo (j.ab.g tqk.toNat).aB) (mW:((j.ab.g tqk.toNat).name).length<2^60) (BS:bT h .i64 3 (j.ab.g tqk.toNat).bh (j.ab.g tqk.toNat).aD) (mQ:aK.ok h j) (C4:aK.ok h (j.ab.g tqk.toNat)) (o9:0≤tqk) (rz:tqk<(j.ab.length:Int)) (rA:aE.length=j.ab.length) (vg:aj.length=j.ab.length) (Ds:∀q,q<(j.ab.g tqk.toNat).aB.length→0≤((j.ab.g tqk.toNat).aB.g q).ah∧((j.ab.g tqk.toNat).aB.g q).ah<(aW.length:Int)) (Fo:∀a,a<(j.ab.g tqk.toNat).aB.length→∀b,a<b→b<(j.ab.g tqk.toNat).aB.length→((j.ab.g tqk.toNat).aB.g a).ah≠((j.ab.g tqk.toNat).aB.g b).ah) (Pa:∀i,i<j.ab.length→∀q,q<(j.ab.g i).aD.length→0≤(j.ab.g i).aD.g q∧(j.ab.g i).aD.g q<(j.ab.length:Int)) (U1:∀i,i<j.ab.length→0≤(j.ab.g i).takes∧(j.ab.g i).takes≤100000) (agM:∀i,i<aj.length→0≤aj.g i∧aj.g i+(j.ab.g i).takes≤100000) (adk:∀q,q<(j.ab.g tqk.toNat).aB.length→tq 159 (aW.g (Int.toNat ((j.ab.g tqk.toNat).aB.g q).ah))∧ade (aW.g (Int.toNat ((j.ab.g tqk.toNat).aB.g q).ah))) (aiA:0≤fm) (aiB:fm≤100000) (aiC:(j.ab.g tqk.toNat).aB.length≤1000000) (aiD:tqN=aW.length) (aiE:aW.length=tqN) (bM:Tidy h) (cz:h.get b6=some (aN.cells [j.au,j.ar,(AV.slice ie 0 pqN pqN false),(AV.slice iL 0 sqN sqN false),(AV.slice lF 0 tqN tqN tqF)] 103 false)) (d_:h.get dv=some (aN.cells [(AV.str (j.ab.g tqk.toNat).name),(Zi (j.ab.g tqk.toNat).takes),(j.ab.g tqk.toNat).bh,(j.ab.g tqk.toNat).bo] 48 false)) (oU:h.get ie=some (aN.cells (bs aE) 4 false)) (pN:h.get iL=some (aN.cells (zs .i64 aj) 3 false)) (Hq:h.get lF=some (aN.cells (kL aW) 156 false)):∀(k_ i_:Nat) (rR:List Cl) (z1:AV) (_:i_+k_=((j.ab.g tqk.toNat).aB.length)) (x:Nat→AV) (hh:az) (aF:Tidy hh) (aA:Has h hh) (fN:h.nx≤hh.nx) (oz1:bI h hh z1 rR) (adl:∀y∈rR,aK.ok hh y) (lz1:rR.length≤i_),o6 (cA (d+3)) Sh ⟨((x 0)::(Zi tqk)::(Zi (bU j aj tqk (j.ab.g tqk.toNat).aD.length 0 fm))::(Pt b6)::rx x 4 3 ((Pt dv)::(x 8)::(x 9)::z1::rx x 11 26 (((j.ab.g tqk.toNat).bo)::(Zn (j.ab.g tqk.toNat).aB.length)::(Zn i_)::rx x 40 33 []))),hh,[],.no⟩ (.exit 2) h (fun r z y=>((y 0)::(Zi tqk)::(Zi (bU j aj tqk (j.ab.g tqk.toNat).aD.length 0 fm))::(Pt b6)::rx y 4 3 ((Pt dv)::(y 8)::(y 9)::z::rx y 11 26 (((j.ab.g tqk.toNat).bo)::(Zn (j.ab.g tqk.toNat).aB.length)::rx y 39 34 [])))) (fun r=>r) (j.ab.g tqk.toNat).aB.length (fu lF j tqk k_ i_ rR)
 | 0,i1,rR,z1,eZ,x,hh,aF,aA,fN,oz1,adl,lz1=>by
  have q1:(decide (((i1:Nat):Int)<(((j.ab.g tqk.toNat).aB.length:Nat):Int)))=false:=d!
  exact o6.out rR z1 rfl (pk (d+3) _ _ hh _ hh (VV (bE 3 false false .i64 ((i1:Nat):Int) (((j.ab.g tqk.toNat).aB.length:Nat):Int))<|BB q1<|ZZ) k!) ⟨aF,aA,by omega⟩ oz1 adl wI k!
 | nK+1,i1,rR,z1,eZ,x,hh,aF,aA,fN,oz1,adl,lz1=>by
  have pV:=eP.small
  have rC:=dW.small
  have Fx:=mr.small
  have adm:=BS.small
  have E2:=bM _ _ cz
  have Oo:=bM _ _ d_
  have akL:=bM _ _ oU
  have akM:=bM _ _ pN
  have ar8:=bM _ _ Hq
  have ur_:=Ds i1
  have q1:(decide (((i1:Nat):Int)<(((j.ab.g tqk.toNat).aB.length:Nat):Int)))=true:=d!
  obtain ⟨p3,q4,gh⟩:=(mr.has aA).elem (i:=i1) o!
  have kN:=(mr.has aA).load o! gh
  obtain ⟨h6,kV,ig,uz,jc,bB⟩:=gQ aF (aN.cells [(Zi 0),(Zi 0)] 50 false)
  have gL:=bB
  obtain ⟨h7,jw,dM,r5,dS,aX⟩:=j_ (t:=50) (n:=2) (i:=hh.nx) (L:=[(Zi ((j.ab.g tqk.toNat).aB.g i1).ah),(Zi ((j.ab.g tqk.toNat).aB.g i1).aI)]) ig jc k! rfl rfl rfl
  have cV:=Has.bK gL aX aF o!
  have ei:=fun {al ps} (k:Pk al _ ps)=>(VV (bE 3 false false .i64 ((i1:Nat):Int) (((j.ab.g tqk.toNat).aB.length:Nat):Int))<|BV q1 gh<|MM kN<|NN kV (fun i=>(Pt i))<|SS jw<|CC<|MM (aP 3 1 (Zi (j.ab.g tqk.toNat).takes) (aX _ _ o! (bB _ _ (aA _ _ d_))) k!)<|VV (gz 3 false true .i64 (j.ab.g tqk.toNat).takes 0)<|k:Pk _ [] ps)
  rcases bu (decide (0<((j.ab.g tqk.toNat).takes))) with f1 | f1
  · have eB:=jv f1
    have ix9:hG env (some (.slice 156)) (some (AV.slice lF 0 tqN tqN tqF)) (some (Zi ((j.ab.g tqk.toNat).aB.g i1).ah))=some (AV.ptr lF (0+(((j.ab.g tqk.toNat).aB.g i1).ah).toNat*324)):=CP (z:=324) (k:=(((j.ab.g tqk.toNat).aB.g i1).ah).toNat) k! o! o!
    obtain ⟨vQ,Rq,ji,abZ,Gw,pc⟩:=gQ dM (aN.cells [(AV.func 141 [(AV.ptr lF (0+(((j.ab.g tqk.toNat).aB.g i1).ah).toNat*324))] []),(Zi ((j.ab.g tqk.toNat).aB.g i1).aI)] 207 false)
    have gZ:=cV.trans pc
    obtain ⟨z12,lY,UC,iU,acr,W0,akf,ar9⟩:=bI.app (tys:= #[204,204]) (l:=rR) (m:=[(⟨lF,0+(((j.ab.g tqk.toNat).aB.g i1).ah).toNat*324,((j.ab.g tqk.toNat).aB.g i1).aI⟩:Cl)]) (x:=(AV.slice h7.nx 0 1 1 false)) ji bM (aA.trans gZ) o! (oz1.has gZ) rfl (oi (x:=(⟨lF,0+(((j.ab.g tqk.toNat).aB.g i1).ah).toNat*324,((j.ab.g tqk.toNat).aB.g i1).aI⟩:Cl)) Gw) (by simp [aK.c,Cl.c,AV.scalar]) wI rfl rfl k! k! (bytes:=16) k! (z0:=(AV.agg [AV.nilFunc,(Zi 0)])) k! rfl (by decide)
    have akN:∀y∈(rR++([(⟨lF,0+(((j.ab.g tqk.toNat).aB.g i1).ah).toNat*324,((j.ab.g tqk.toNat).aB.g i1).aI⟩:Cl)])),aK.ok lY y:=wm (D:=Cl) (Bp (wk gZ adl) (ok_one trivial))
    have u14:=eA 3 false true i1 1 o!
    exact o6.round (by simp only[fu,f1,ao,ai]) (pk (d+3) _ _ hh _ lY (ei<|BB f1<|CN 2<|MM (aP 101 4 (AV.slice lF 0 tqN tqN tqF) (aX _ _ o! (bB _ _ (aA _ _ cz))) k!)<|CC<|MM (aP 3 0 (Zi ((j.ab.g tqk.toNat).aB.g i1).ah) dS k!)<|VV ix9<|CN 2<|MM (aP 3 1 (Zi ((j.ab.g tqk.toNat).aB.g i1).aI) dS k!)<|CC<|NN Rq (fun i=>(AV.slice i 0 1 1 false))<|PP (show cb env vQ #[204,204] z1 (AV.slice h7.nx 0 1 1 false)=some (z12,lY) from UC)<|CC<|HH (aP 101 4 (AV.slice lF 0 tqN tqN tqF) (pc _ _ (aX _ _ o! (bB _ _ (aA _ _ cz)))) k!)<|HH (show AV.same 20 (AV.slice lF 0 tqN tqN tqF) (AV.slice lF 0 tqN tqN tqF)=true from gy 19 _ _ _ _ _)<|HH (aP 3 0 (Zi ((j.ab.g tqk.toNat).aB.g i1).ah) (pc _ _ dS) k!)<|HH (show AV.same 20 (Zi ((j.ab.g tqk.toNat).aB.g i1).ah) (Zi ((j.ab.g tqk.toNat).aB.g i1).ah)=true from aS 19 _ _)<|HH (aP 3 1 (Zi ((j.ab.g tqk.toNat).aB.g i1).aI) (pc _ _ dS) k!)<|HH (show AV.same 20 (Zi ((j.ab.g tqk.toNat).aB.g i1).aI) (Zi ((j.ab.g tqk.toNat).aB.g i1).aI)=true from aS 19 _ _)<|HH (show ∃o,vQ.get h7.nx=some o∧aN.same o (aN.cells [(AV.func 141 [(AV.ptr lF (0+(((j.ab.g tqk.toNat).aB.g i1).ah).toNat*324))] []),(Zi ((j.ab.g tqk.toNat).aB.g i1).aI)] 207 false)=true from ⟨_,Gw,by simp [aN.same,dR,AV.same]⟩)<|VV u14<|CC<|ZZ) k!) _ k! (fun x=>wK tqk j aj fm pqN sqN tqN tqF aE aW b6 dv ie iL lF eP dW mr mW BS mQ C4 o9 rz rA vg Ds Fo Pa U1 agM adk aiA aiB aiC aiD aiE bM cz d_ oU pN Hq nK (i1+1) (rR++([(⟨lF,0+(((j.ab.g tqk.toNat).aB.g i1).ah).toNat*324,((j.ab.g tqk.toNat).aB.g i1).aI⟩:Cl)])) z12 o! x lY iU W0 o! akf akN wI)
  · have u9:=eA 3 false true i1 1 o!
    exact o6.round (by simp only[fu,f1,ao,ai]) (pk (d+3) _ _ hh _ h7 (ei<|BV f1 u9<|CC<|ZZ) k!) _ k! (fun x=>wK tqk j aj fm pqN sqN tqN tqF aE aW b6 dv ie iL lF eP dW mr mW BS mQ C4 o9 rz rA vg Ds Fo Pa U1 agM adk aiA aiB aiC aiD aiE bM cz d_ oU pN Hq nK (i1+1) rR z1 o! x h7 dM (aA.trans cV) o! (oz1.has cV) (wm (D:=Cl) adl) wI)
theorem zg {j:bP} {tqk:Int} {tqB:Nat}:∀(k i:Nat) (v:List Cl),i+k=(j.ab.g tqk.toNat).aB.length→fu tqB j tqk k i v=v++bif decide (0<(j.ab.g tqk.toNat).takes) then ((j.ab.g tqk.toNat).aB.drop i).map (fun u=>(⟨tqB,0+u.ah.toNat*324,u.aI⟩:Cl)) else []
 | 0,i,v,h=>by
  rw[fu,List.drop_eq_nil_of_le o!]
  cases decide (0<(j.ab.g tqk.toNat).takes)<;>simp
 | k+1,i,v,h=>by
  rw[fu]
  cases c:decide (0<(j.ab.g tqk.toNat).takes) with
  | true=>rw[ao,zg k (i+1) _ o!,c,ao,ao,Jx (show i<(j.ab.g tqk.toNat).aB.length by omega),List.map_cons,List.append_assoc];rfl
  | false=>rw[ai,zg k (i+1) _ o!,c,ai,ai]
theorem Si {j:bP} {tqk:Int} {tqB:Nat}:(fu tqB j tqk (j.ab.g tqk.toNat).aB.length 0 []).length=qW j tqk∧∀i,i<(fu tqB j tqk (j.ab.g tqk.toNat).aB.length 0 []).length→i<(j.ab.g tqk.toNat).aB.length∧(fu tqB j tqk (j.ab.g tqk.toNat).aB.length 0 []).g i=⟨tqB,0+(Int.toNat ((j.ab.g tqk.toNat).aB.g i).ah)*324,((j.ab.g tqk.toNat).aB.g i).aI⟩:=by
 rw[zg _ 0 _ o!,List.nil_append,List.drop_zero,qW]
 cases decide (0<(j.ab.g tqk.toNat).takes) with
 | true=>
  rw[ao,ao]
  refine ⟨List.length_map _,fun i hi=>?_⟩
  rw[List.length_map] at hi
  refine ⟨hi,?_⟩
  exact aoB hi
 | false=>exact ⟨rfl,fun i hi=>absurd hi (by simp)⟩
def cK (j:bP) (aE:List Bool) (aj:List Int) (aW:List Tl) (tqk:Int) (fm:Int):Bool×List Bool×List Int×List Tl:=(bif (decide (100000<((fo (qW j tqk) (asks j aW tqk) (bU j aj tqk (j.ab.g tqk.toNat).aD.length 0 fm))+((j.ab.g tqk.toNat).takes)))) then (false,aE,aj,aW) else (true,(di j aE aj aW tqk (fo (qW j tqk) (asks j aW tqk) (bU j aj tqk (j.ab.g tqk.toNat).aD.length 0 fm))).1,(di j aE aj aW tqk (fo (qW j tqk) (asks j aW tqk) (bU j aj tqk (j.ab.g tqk.toNat).aD.length 0 fm))).2.1,(di j aE aj aW tqk (fo (qW j tqk) (asks j aW tqk) (bU j aj tqk (j.ab.g tqk.toNat).aD.length 0 fm))).2.2))
theorem Zx {d:Nat} {h hh:az} {bq pqN bt sqN tqB tqN:Nat} {tqF:Bool} (j:bP) (aE:List Bool) (aj:List Int) (aW:List Tl) (tqk:Int) (fm:Int) (b7:aK.ok h j) (dU:hh.get bq=some (aN.cells (bs aE) 4 false)) (Dd:aE.length=pqN) (Jo:h.get bq=none) (dH:hh.get bt=some (aN.cells (zs .i64 aj) 3 false)) (Jp:aj.length=sqN) (Jq:h.get bt=none) (eW:hh.get tqB=some (aN.cells (kL aW) 156 false)) (MN:aW.length=tqN) (MO:h.get tqB=none) (mf:0≤tqk) (oQ:tqk<(j.ab.length:Int)) (xU:aE.length=j.ab.length) (Ak:aj.length=j.ab.length) (Ha:∀q,q<(j.ab.g tqk.toNat).aB.length→0≤((j.ab.g tqk.toNat).aB.g q).ah∧((j.ab.g tqk.toNat).aB.g q).ah<(aW.length:Int)) (Y5:∀a,a<(j.ab.g tqk.toNat).aB.length→∀b,a<b→b<(j.ab.g tqk.toNat).aB.length→((j.ab.g tqk.toNat).aB.g a).ah≠((j.ab.g tqk.toNat).aB.g b).ah) (pre6:∀i,i<j.ab.length→∀q,q<(j.ab.g i).aD.length→0≤(j.ab.g i).aD.g q∧(j.ab.g i).aD.g q<(j.ab.length:Int)) (ab7:∀i,i<j.ab.length→0≤(j.ab.g i).takes∧(j.ab.g i).takes≤100000) (aj5:∀i,i<aj.length→0≤aj.g i∧aj.g i+(j.ab.g i).takes≤100000) (Un:∀q,q<(j.ab.g tqk.toNat).aB.length→tq 159 (aW.g (Int.toNat ((j.ab.g tqk.toNat).aB.g q).ah))∧ade (aW.g (Int.toNat ((j.ab.g tqk.toNat).aB.g q).ah))) (aoC:0≤fm) (aoD:fm≤100000) (aui:(j.ab.g tqk.toNat).aB.length≤1000000) (aj6:bt≠bq) (an4:tqB≠bq) (an5:tqB≠bt) (bM:Tidy h) (aF:Tidy hh) (aA:Has h hh) (fN:h.nx≤hh.nx):∃hk,cA (d+4) (.fn 94) [(AV.agg [j.au,j.ar,(AV.slice bq 0 pqN pqN false),(AV.slice bt 0 sqN sqN false),(AV.slice tqB 0 tqN tqN tqF)]),(Zi tqk),(Zi fm)] hh= .ret (AV.bool (cK j aE aj aW tqk fm).1) hk∧Tidy hk∧hh.nx≤hk.nx∧Has h hk∧hk.get bq=some (aN.cells (bs (cK j aE aj aW tqk fm).2.1) 4 false)∧((cK j aE aj aW tqk fm).2.1).length=pqN∧hk.get bt=some (aN.cells (zs .i64 (cK j aE aj aW tqk fm).2.2.1) 3 false)∧((cK j aE aj aW tqk fm).2.2.1).length=sqN∧hk.get tqB=some (aN.cells (kL (cK j aE aj aW tqk fm).2.2.2) 156 false)∧((cK j aE aj aW tqk fm).2.2.2).length=tqN:=by
 have l7:=b7.1.small
 have l8:=b7.2.small
 have Jr:=aF _ _ dU
 have Js:=aF _ _ dH
 have MP:=aF _ _ eW
 obtain ⟨h1,dw,de,jW,bx,ca⟩:=gQ aF (aN.cells [j.au,j.ar,(AV.slice bq 0 pqN pqN false),(AV.slice bt 0 sqN sqN false),(AV.slice tqB 0 tqN tqN tqF)] 103 false)
 have bD:=aA.trans ca
 obtain ⟨p3,q4,mu⟩:=b7.1.elem (i:=tqk.toNat) o!
 have gh:=xn mu o!
 have kN:=(b7.1.has bD).load o! mu
 obtain ⟨h6,kV,ig,uz,jc,bB⟩:=gQ de (aN.cells [(AV.str []),(Zi 0),AV.aw,AV.aw] 48 false)
 have gL:=bD.trans bB
 have C6:=((b7.1.ok (i:=tqk.toNat) o!).2.1).scalar
 have MQ:=((b7.1.ok (i:=tqk.toNat) o!).2.2).scalar
 obtain ⟨h7,jw,dM,r5,dS,aX⟩:=j_ (t:=48) (n:=4) (i:=h1.nx) (L:=[(AV.str (j.ab.g tqk.toNat).name),(Zi (j.ab.g tqk.toNat).takes),(j.ab.g tqk.toNat).bh,(j.ab.g tqk.toNat).bo]) ig jc k! rfl rfl (kJ rfl (kJ rfl (kJ C6 (kJ MQ rfl))))
 have cV:=Has.bK gL aX bM o!
 have uN:=((b7.1.ok (i:=tqk.toNat) o!).2.1).len
 obtain ⟨FA,pH,mX,dj,aoE⟩:=DM (d:=d) (h:=h) tqk j pqN sqN tqN tqF aE aj aW fm hh.nx h1.nx bq bt tqB b7.1 b7.2 (b7.1.ok (i:=tqk.toNat) o!).2.1 (b7.1.ok (i:=tqk.toNat) o!).1 (b7.1.ok (i:=tqk.toNat) o!).2.2 b7 (b7.1.ok (i:=tqk.toNat) o!) o! o! o! o! a! a! a! a! a! a! o! o! o! o! o! (j.ab.g tqk.toNat).aD.length 0 fm o! (show (0≤fm∧fm≤100000) from BT) (dr ((AV.agg [j.au,j.ar,(AV.slice bq 0 pqN pqN false),(AV.slice bt 0 sqN sqN false),(AV.slice tqB 0 tqN tqN tqF)])::(Zi tqk)::(Zi fm)::(Pt hh.nx)::aL::aL::(AV.bool false)::(Pt h1.nx)::aL::aL::aL::aL::aL::aL::(Pt hh.nx)::(Pt hh.nx)::j.au::(Zi tqk)::(AV.ptr p3 q4)::(AV.agg [(AV.str (j.ab.g tqk.toNat).name),(Zi (j.ab.g tqk.toNat).takes),(j.ab.g tqk.toNat).bh,(j.ab.g tqk.toNat).bo])::(AV.ptr h1.nx 2)::((j.ab.g tqk.toNat).bh)::(Zn (j.ab.g tqk.toNat).aD.length)::(Zi 0)::iW 49)) h7 dM cV (aX _ _ o! (bB _ _ bx)) dS (aX _ _ o! (bB _ _ (ca _ _ dU))) (aX _ _ o! (bB _ _ (ca _ _ dH))) (aX _ _ o! (bB _ _ (ca _ _ eW)))
 have hD:=dj.y
 have Dc:h7.nx≤pH.nx:=dj.n
 have eT:=cV.trans dj.a
 have Ue:=((b7.1.ok (i:=tqk.toNat) o!).2.2).len
 obtain ⟨asa,arG,HR,Ot,oK,asb,agN,asc⟩:=wK (d:=d) (h:=pH) tqk j aj fm pqN sqN tqN tqF aE aW hh.nx h1.nx bq bt tqB (b7.1.has eT) (b7.2.has eT) ((b7.1.ok (i:=tqk.toNat) o!).2.2.has eT) (b7.1.ok (i:=tqk.toNat) o!).1 ((b7.1.ok (i:=tqk.toNat) o!).2.1.has eT) (aK.mono eT b7) (aK.mono eT (b7.1.ok (i:=tqk.toNat) o!)) o! o! o! o! a! a! a! a! a! a! o! o! o! o! o! hD (dj.a _ _ (aX _ _ o! (bB _ _ bx))) (dj.a _ _ dS) (dj.a _ _ (aX _ _ o! (bB _ _ (ca _ _ dU)))) (dj.a _ _ (aX _ _ o! (bB _ _ (ca _ _ dH)))) (dj.a _ _ (aX _ _ o! (bB _ _ (ca _ _ eW)))) (j.ab.g tqk.toNat).aB.length 0 ([]) AV.aw o! (dr ((FA 0)::(Zi tqk)::(Zi (bU j aj tqk (j.ab.g tqk.toNat).aD.length 0 fm))::(Pt hh.nx)::rx FA 4 3 ((Pt h1.nx)::(FA 8)::(FA 9)::AV.aw::rx FA 11 10 (((j.ab.g tqk.toNat).bh)::(Zn (j.ab.g tqk.toNat).aD.length)::rx FA 23 13 ((AV.ptr h1.nx 3)::((j.ab.g tqk.toNat).bo)::(Zn (j.ab.g tqk.toNat).aB.length)::(Zi 0)::rx FA 40 33 []))))) pH hD (Has.refl _) (jR _) (.inl ⟨.inl rfl,rfl⟩) (fun y hy=>by cases hy) (Nat.zero_le _)
 have aqg:(fu tqB j tqk (j.ab.g tqk.toNat).aB.length 0 ([])).length≤((j.ab.g tqk.toNat).aB.length):=asc
 have agO:aO HR asa (fu tqB j tqk (j.ab.g tqk.toNat).aB.length 0 ([])):=bI.rows asb o! agN
 have qI:=oK.y
 have anT:pH.nx≤HR.nx:=oK.n
 have qJ:=eT.trans oK.a
 have amF:=oK.a
 have kt_:=ab7 tqk.toNat o!
 have zh:=Si (j:=j) (tqk:=tqk) (tqB:=tqB)
 have adn:∀i,i<(fu tqB j tqk (j.ab.g tqk.toNat).aB.length 0 ([])).length→∀f:Int,0≤f→f≤1000000→(asks j aW tqk) i f≤1000000:=fun i hi f _ hf=>adf (Un i (zh.2 i hi).1).2 hf
 have k19:=Sd (d:=d+2) (bU j aj tqk (j.ab.g tqk.toNat).aD.length 0 fm) (j.ab.g tqk.toNat).takes (fu tqB j tqk (j.ab.g tqk.toNat).aB.length 0 ([])) (asks j aW tqk) agO (fun i hi f hh _ _ yy aa=>by rw[(zh.2 i hi).2];exact Y8 (fit (aW.g (Int.toNat ((j.ab.g tqk.toNat).aB.g i).ah)).l) tqB (0+(Int.toNat ((j.ab.g tqk.toNat).aB.g i).ah)*324) f (j.ab.g tqk.toNat).takes ((j.ab.g tqk.toNat).aB.g i).aI (Om (aa _ _ (oK.a _ _ (dj.a _ _ (aX _ _ o! (bB _ _ (ca _ _ eW)))))) (by have u_:=Ha i (zh.2 i hi).1;omega)) (by rw[(C1 (by have u_:=Ha i (zh.2 i hi).1;omega)).2];omega) (wq _) (by have t_:=(Un i (zh.2 i hi).1).1.1;omega) (by have t_:=(Un i (zh.2 i hi).1).1.2.1;omega) yy) adn o! o! qI
 rw[aoz,zh.1] at k19
 have akO:=aiz (n:=(fu tqB j tqk (j.ab.g tqk.toNat).aB.length 0 ([])).length) (f:=(bU j aj tqk (j.ab.g tqk.toNat).aD.length 0 fm)) adn o! o!
 rw[zh.1] at akO
 have w20:IntKind.i64.wrap ((fo (qW j tqk) (asks j aW tqk) (bU j aj tqk (j.ab.g tqk.toNat).aD.length 0 fm))+((j.ab.g tqk.toNat).takes))=(fo (qW j tqk) (asks j aW tqk) (bU j aj tqk (j.ab.g tqk.toNat).aD.length 0 fm))+((j.ab.g tqk.toNat).takes):=wrap_i64 o! o!
 have gK:=fun {al ps} (k:Pk al _ ps)=>(NN dw (fun i=>(Pt i))<|CN 3<|MM (aP 22 0 j.au bx k!)<|CC<|VV gh<|MM kN<|NN kV (fun i=>(Pt i))<|SS jw<|CC<|MM (aP 26 2 (j.ab.g tqk.toNat).bh dS k!)<|VV uN<|CC<|LL mX<|CN 2<|MM (aP 46 3 (j.ab.g tqk.toNat).bo (dj.a _ _ dS) k!)<|VV Ue<|CC<|LL Ot<|CN 2<|MM (aP 3 1 (Zi (j.ab.g tqk.toNat).takes) (oK.a _ _ (dj.a _ _ dS)) k!)<|CC<|EE k19<|CN 3<|MM (aP 3 1 (Zi (j.ab.g tqk.toNat).takes) (oK.a _ _ (dj.a _ _ dS)) k!)<|VV (qE 3 false false w20)<|VV (gz 3 false true .i64 ((fo (qW j tqk) (asks j aW tqk) (bU j aj tqk (j.ab.g tqk.toNat).aD.length 0 fm))+((j.ab.g tqk.toNat).takes)) 100000)<|k:Pk _ [] ps)
 rcases bu (decide (100000<((fo (qW j tqk) (asks j aW tqk) (bU j aj tqk (j.ab.g tqk.toNat).aD.length 0 fm))+((j.ab.g tqk.toNat).takes)))) with f0 | f0
 · have ja:=jv f0
   have e:cK j aE aj aW tqk fm=(false,aE,aj,aW):=by simp only[cK,f0,ao,ai]
   rw[e]
   exact iE rfl (aY Tryz.func94 M4 rfl (.inr rfl) (pk (d+3) _ _ hh _ HR (gK<|BC f0<|ZZ) k!) k!) aF qI o! ⟨qJ,(oK.a _ _ (dj.a _ _ (aX _ _ o! (bB _ _ (ca _ _ dU))))),ft,(oK.a _ _ (dj.a _ _ (aX _ _ o! (bB _ _ (ca _ _ dH))))),ft,(oK.a _ _ (dj.a _ _ (aX _ _ o! (bB _ _ (ca _ _ eW))))),ft⟩ (fun q=>⟨aA,eL q dU (oK.a _ _ (dj.a _ _ (aX _ _ o! (bB _ _ (ca _ _ dU))))),ft,eL q dH (oK.a _ _ (dj.a _ _ (aX _ _ o! (bB _ _ (ca _ _ dH))))),ft,eL q eW (oK.a _ _ (dj.a _ _ (aX _ _ o! (bB _ _ (ca _ _ eW))))),ft⟩)
 · have ja:=pK f0
   obtain ⟨Zy,J8,Xp,DN,DO,jN⟩:=dI qI (oK.a _ _ (dj.a _ _ (aX _ _ o! (bB _ _ (ca _ _ dU)))))
   have FB:=bL qJ BU jN
   obtain ⟨Zz,J9,Xq,DP,DQ,ia⟩:=dI J8 ((jN _ o!).trans (oK.a _ _ (dj.a _ _ (aX _ _ o! (bB _ _ (ca _ _ dH))))))
   have FC:Zz.get bq=none:=(ia _ o!).trans DN
   have FD:=bL FB BU ia
   obtain ⟨ado,U2,agP,Pb,Pc,oc⟩:=dI J9 ((ia _ o!).trans ((jN _ o!).trans (oK.a _ _ (dj.a _ _ (aX _ _ o! (bB _ _ (ca _ _ eW)))))))
   have FE:ado.get bq=none:=(oc _ o!).trans FC
   have ZA:ado.get bt=none:=(oc _ o!).trans DP
   have Pd:=bL FD BU oc
   obtain ⟨h25,aoF,aoG,auj,akP,Xr,aqh,Xs,aqi,Xt,aqj⟩:=HU (d:=d) (h:=ado) (pqN:=pqN) (sqN:=sqN) (tqN:=tqN) (tqF:=tqF) j aE aj aW tqk (fo (qW j tqk) (asks j aW tqk) (bU j aj tqk (j.ab.g tqk.toNat).aD.length 0 fm)) (aK.mono Pd b7) (oK.a _ _ (dj.a _ _ (aX _ _ o! (bB _ _ (ca _ _ dU))))) ft FE (oK.a _ _ (dj.a _ _ (aX _ _ o! (bB _ _ (ca _ _ dH))))) ft ZA (oK.a _ _ (dj.a _ _ (aX _ _ o! (bB _ _ (ca _ _ eW))))) ft Pb e9 e9 e9 e9 e9 e9 e9 e9 e9 e9 o! o! o! U2 qI (Pc.trans (DQ.trans DO)) o!
   have asd:=Dk j aE aj aW tqk (fo (qW j tqk) (asks j aW tqk) (bU j aj tqk (j.ab.g tqk.toNat).aD.length 0 fm)) e9 e9 e9 e9
   have aoH:=(Pd.trans akP)
   have e:cK j aE aj aW tqk fm=(true,(di j aE aj aW tqk (fo (qW j tqk) (asks j aW tqk) (bU j aj tqk (j.ab.g tqk.toNat).aD.length 0 fm))).1,(di j aE aj aW tqk (fo (qW j tqk) (asks j aW tqk) (bU j aj tqk (j.ab.g tqk.toNat).aD.length 0 fm))).2.1,(di j aE aj aW tqk (fo (qW j tqk) (asks j aW tqk) (bU j aj tqk (j.ab.g tqk.toNat).aD.length 0 fm))).2.2):=by simp only[cK,f0,ao,ai]
   rw[e]
   exact iE rfl (aY Tryz.func94 M4 rfl (.inr rfl) (pk (d+3) _ _ hh _ h25 (gK<|BM f0 (aP 103 0 (AV.agg [j.au,j.ar,(AV.slice bq 0 pqN pqN false),(AV.slice bt 0 sqN sqN false),(AV.slice tqB 0 tqN tqN tqF)]) (oK.a _ _ (dj.a _ _ (aX _ _ o! (bB _ _ bx)))) k!)<|CN 2<|EE aoF<|CC<|ZZ) k!) k!) aF aoG o! ⟨aoH,Xr,ft,Xs,ft,Xt,ft⟩ (fun q=>⟨aA,eL q dU Xr,ft,eL q dH Xs,ft,eL q eW Xt,ft⟩)
theorem Sj {P:Nat→Int→Int} {n:Nat} (hB:∀i,i<n→∀f:Int,0≤f→f≤1000000→P i f≤1000000) {bad:Int→Prop} (hs:∀i,i<n→∀f m:Int,0≤f→f≤1000000→f≤m→m<P i f→bad m):∀(k:Nat) (f:Int),0≤f→f≤1000000→1000001 - f≤k→(∀q,q<n→P q (U0 P n k f)≤U0 P n k f)∧(∀m,f≤m→m<U0 P n k f→bad m)
 | 0,f,a,b,c=>by omega
 | k+1,f,a,b,c=>by
  rw[U0]
  cases e:fo1 P f n 0 with
  | none=>exact ⟨fun q hq=>Sf e q (Nat.zero_le _) o!,fun m x (y:m<f)=>by omega⟩
  | some r=>
   obtain ⟨q,_,hq,er,g⟩:=DL e
   have:=hB q o! f a b
   have ih:=Sj hB hs k r o! o! o!
   refine ⟨ih.1,fun m x y=>?_⟩
   by_cases z:m<r
   · exact hs q o! f m a b x o!
   · exact ih.2 m o! y
theorem agQ {P:Nat→Int→Int} {n:Nat} (hB:∀i,i<n→∀f:Int,0≤f→f≤1000000→P i f≤1000000) {bad:Int→Prop} (hs:∀i,i<n→∀f m:Int,0≤f→f≤1000000→f≤m→m<P i f→bad m) {f:Int} (a:0≤f) (b:f≤1000000):(∀q,q<n→P q (fo n P f)≤fo n P f)∧(∀m,f≤m→m<fo n P f→bad m):=Sj hB hs _ f a b o!
section
variable {j:bP} {s:List Int} {p:List Bool}
theorem DS (F:cE j) {T:List Tl} {k:Nat} (I:INV j p s k T) (hk:k≤64) {i u:Nat} (hi:i<j.ab.length) (hu:u<(j.ab.g i).aB.length) {f:Int} (f0:0≤f) (f1:f≤1000000):
 f≤asks j T (i:Int) u f∧asks j T (i:Int) u f≤1000000∧((∀x,f≤x→x<asks j T (i:Int) u f→100001<x+(j.ab.g i).takes∨∃m,x≤m∧m<x+(j.ab.g i).takes∧¬OK1 j p s i u m)∨(j.ab.g i).takes=0)∧∀m,asks j T (i:Int) u f≤m→m<asks j T (i:Int) u f+(j.ab.g i).takes→m<100001→OK1 j p s i u m:=by
 have ur:=F.ur i hi u hu
 have um:=F.um i hi u hu
 have tk:=F.tk i hi
 have rs:=F.rs (Int.toNat ((j.ab.g i).aB.g u).ah) o!
 obtain ⟨n,B,hn,lv,mk⟩:=I.2 (Int.toNat ((j.ab.g i).aB.g u).ah) o!
 have sp:=Uq B.is (takes:=(j.ab.g i).takes) (pieces:=((j.ab.g i).aB.g u).aI) f0 f1 tk.1 tk.2 B.f fun q hq=>by
  have:=B.u q hq
  omega
 rw[asks,Int.toNat_natCast,ux B.is.len]
 rw[mk] at sp
 refine ⟨sp.1,sp.2.2.2,?_,fun m a b c=>?_⟩
 · rcases sp.2.1 with h | h
   · refine .inl fun x a b=>?_
     rcases h x a b with g | ⟨m,g1,g2,g3,g4⟩
     · exact .inl g
     · refine .inr ⟨m,g1,g2,fun o=>?_⟩
       rw[lv m o!] at g4
       unfold OK1 at o
       omega
   · exact .inr h
 · have:=sp.2.2.1 m a b c
   rw[lv m o!] at this
   exact this
theorem adp (F:cE j) (T:Tm j s) {n:Int} (h0:0≤n) (h1:n<(j.ab.length:Int)):dk j s n=s.g n.toNat+(j.ab.g n.toNat).takes:=by
 have t:=T n.toNat o!
 have tk:=F.tk n.toNat o!
 rw[dk,wrap_i64 o! o!]
theorem agR {a b x:Int}:imax a b≤x↔a≤x∧b≤x:=by unfold imax;split<;>omega
theorem Sk (F:cE j) (T:Tm j s) {i:Nat} (hi:i<j.ab.length) (x:Int):∀(k a:Nat) (v:Int),a+k=(j.ab.g i).aD.length→(bU j s (i:Int) k a v≤x↔v≤x∧∀q,a≤q→q<a+k→s.g (Int.toNat ((j.ab.g i).aD.g q))+(j.ab.g (Int.toNat ((j.ab.g i).aD.g q))).takes≤x)
 | 0,a,v,h=>⟨fun z=>⟨z,fun q x y=>by omega⟩,fun z=>z.1⟩
 | k+1,a,v,h=>by
  have nb:=F.nb i hi a o!
  rw[bU,Int.toNat_natCast,adp F T nb.1 nb.2,Sk F T hi x k (a+1) _ o!,agR]
  refine ⟨fun z=>⟨z.1.1,fun q h1 h2=>?_⟩,fun z=>⟨⟨z.1,z.2 a (jR _) o!⟩,fun q h1 h2=>z.2 q o! o!⟩⟩
  by_cases e:q=a
  · rw[e];exact z.1.2
  · exact z.2 q o! o!
def Rdy (j:bP) (p:List Bool) (i:Nat):Prop:=∀q,q<(j.ab.g i).aD.length→p.g (Int.toNat ((j.ab.g i).aD.g q))=true
end
theorem eG.wo {e:TypeId} {g h hw:az} {z:AV} {L:List AV} {b:Nat} (o:eG e g h z L) (ke:∀i,i≠b→hw.get i=h.get i) (hb:b<g.nx):eG e g hw z L:=o.imp id fun ⟨hn,p,op,e,h1,q⟩=>⟨hn,p,op,e,h1,(ke p o!).trans q⟩
def QI (j:bP) (i:Int) (T:List Tl):Prop:=T.length=j.af.length∧∀r,r<j.af.length→∃n:Nat,sZ (T.g r).l n (1000*(16+i)) 100001∧(n:Int)≤33+2*i
theorem QI.ok {j:bP} {i:Int} {T:List Tl} (Q:QI j i T) {r:Nat} (hr:r<j.af.length) (hi:i≤63):tq 159 (T.g r)∧ade (T.g r):=by
 obtain ⟨n,B,hn⟩:=Q.2 r hr
 have hf:fit (T.g r).l=(T.g r).l:=ux B.is.len
 refine ⟨?_,fun k=>?_⟩
 · unfold tq
   rw[hf,B.is.cn]
   have:=B.is.lo
   exact ⟨by omega,by omega,B.is.zero⟩
 · rw[hf,ace B.is]
   split
   · rename_i h;have:=B.f (k+1) h;omega
   · decide
theorem QI.put {j:bP} {i:Int} {T:List Tl} (Q:QI j i T) (hi:i≤63) (h0:0≤i) (a:List Bool) (b:List Int) {tqk iD:Int} (F:∀q,q<(j.ab.g tqk.toNat).aB.length→0≤((j.ab.g tqk.toNat).aB.g q).ah∧((j.ab.g tqk.toNat).aB.g q).ah<(T.length:Int)) (ud:∀a,a<(j.ab.g tqk.toNat).aB.length→∀b,a<b→b<(j.ab.g tqk.toNat).aB.length→((j.ab.g tqk.toNat).aB.g a).ah≠((j.ab.g tqk.toNat).aB.g b).ah) (um:∀q,q<(j.ab.g tqk.toNat).aB.length→0≤((j.ab.g tqk.toNat).aB.g q).aI∧((j.ab.g tqk.toNat).aB.g q).aI≤1000) (s0:0≤iD) (s1:iD+(j.ab.g tqk.toNat).takes≤100000):QI j (i+1) (di j a b T tqk iD).2.2:=by
 rw[Bx]
 show QI j (i+1) (gR T (j.ab.g tqk.toNat).aB ⟨iD,iD+(j.ab.g tqk.toNat).takes - 1⟩)
 refine ⟨by rw[Jy];exact Q.1,fun r hr=>?_⟩
 obtain ⟨n,B,hn⟩:=Q.2 r hr
 have hd:=OA (fun q hq=>(F q hq).1) ud
 have hf:fit (T.g r).l=(T.g r).l:=ux B.is.len
 rcases Oz (sp:=⟨iD,iD+(j.ab.g tqk.toNat).takes - 1⟩) (r:=r) _ T hd (fun u hu=>by
  obtain ⟨q,hq,e⟩:=Dj hu
  have:=F q hq
  rw[e] at this;omega) with ⟨u,hu,er,g⟩ | ⟨K5,g⟩
 · rw[g,hf]
   obtain ⟨q,hq,e⟩:=Dj hu
   have m:=um q hq
   rw[e] at m
   obtain ⟨n',x1,x2,x3,x4⟩:=Oy B o! (s:=⟨iD,iD+(j.ab.g tqk.toNat).takes - 1⟩) (p:=u.aI) s0 (by dsimp only;omega) o! o!
   exact ⟨n',x1.up o!,by omega⟩
 · rw[g];exact ⟨n,B.up o!,by omega⟩
theorem QI.up {j:bP} {i:Int} {T:List Tl} (Q:QI j i T):QI j (i+1) T:=⟨Q.1,fun r hr=>by
 obtain ⟨n,B,hn⟩:=Q.2 r hr
 exact ⟨n,B.up o!,by omega⟩⟩
theorem aiF {j:bP} (F:cE j):QI j 0 (ay j).1:=by
 have I:=O6 (s:=[]) F
 exact ⟨I.1,fun r hr=>by
  obtain ⟨n,B,hn,_,_⟩:=I.2 r hr
  exact ⟨n,B,by omega⟩⟩
theorem U3 (j:bP) (aE:List Bool) (aj:List Int) (aW:List Tl) (tqk fm:Int) (F:cE j) (t0:0≤tqk) (t1:tqk<(j.ab.length:Int)) (hl:aj.length=j.ab.length) (ht:aW.length=j.af.length) (f0:0≤fm) (f1:fm≤100000) (sb:∀i,i<aj.length→0≤aj.g i∧aj.g i+(j.ab.g i).takes≤100000):
 (∀i,i<aj.length→0≤(cK j aE aj aW tqk fm).2.2.1.g i∧(cK j aE aj aW tqk fm).2.2.1.g i+(j.ab.g i).takes≤100000)∧∀i:Int,0≤i→i≤63→QI j i aW→QI j (i+1) (cK j aE aj aW tqk fm).2.2.2:=by
 have hi:Int.toNat tqk<j.ab.length:=by omega
 have fr:∀k i (v:Int),i+k=(j.ab.g tqk.toNat).aD.length→0≤v→v≤100000→0≤bU j aj tqk k i v∧bU j aj tqk k i v≤100000:=by
  intro k
  induction k with
  | zero=>intro i v _ a b;exact ⟨a,b⟩
  | succ k ih=>
   intro i v e a b
   have nb:=F.nb _ hi i o!
   have eb:=adb sb F.tk hl nb.1 nb.2
   rw[bU]
   exact ih (i+1) _ o! (Xn a) (O_ b eb.2)
 have f:=fr (j.ab.g tqk.toNat).aD.length 0 fm o! f0 f1
 rw[cK]
 by_cases c:100000<fo (qW j tqk) (asks j aW tqk) (bU j aj tqk (j.ab.g tqk.toNat).aD.length 0 fm)+(j.ab.g tqk.toNat).takes
 · rw[eV c,ao]
   exact ⟨sb,fun i _ _ Q=>Q.up⟩
 · rw[fL c,ai]
   have lo:=aoA (n:=qW j tqk) (P:=asks j aW tqk) (bU j aj tqk (j.ab.g tqk.toNat).aD.length 0 fm)
   generalize fo (qW j tqk) (asks j aW tqk) (bU j aj tqk (j.ab.g tqk.toNat).aD.length 0 fm)=st at *
   refine ⟨fun i hi=>?_,fun i h0 h1 Q=>?_⟩
   · show 0≤(di j aE aj aW tqk st).2.1.g i∧(di j aE aj aW tqk st).2.1.g i+(j.ab.g i).takes≤100000
     rw[Bx]
     by_cases e:Int.toNat tqk=i
     · subst e
       rw[show ((aj.set tqk.toNat st).g tqk.toNat)=st from fk o!];omega
     · rw[show ((aj.set tqk.toNat st).g i)=aj.g i from bk e _];exact sb i hi
   · exact Q.put h1 h0 aE aj (fun q hq=>by have:=F.ur _ hi q hq;omega) (F.ud _ hi) (fun q hq=>by
      have a:=F.um _ hi q hq
      have b:=F.ur _ hi q hq
      have c:=(F.rs (Int.toNat ((j.ab.g tqk.toNat).aB.g q).ah) o!).2.2
      omega) o! o!
theorem J' {oqd:List Int} {ts:List Task}:∀(k i:Nat) (v:List Int) (a:List Bool),(b5 oqd ts k i v a).1.length≤v.length+1
 | 0,i,v,a=>by rw[b5];exact Nat.le_succ _
 | k+1,i,v,a=>by
  rw[b5]
  cases jA ts a (oqd.g i) with
  | true=>rw[ao];simp
  | false=>exact J' (oqd:=oqd) (ts:=ts) k (i+1) v a
theorem Ka {oqd:List Int} {ts:List Task}:∀(k i:Nat) (v:List Int) (a:List Bool),(cH oqd ts k i v a).1.length≤v.length+k
 | 0,i,v,a=>jR _
 | k+1,i,v,a=>by
  rw[cH]
  have x:=Ka (oqd:=oqd) (ts:=ts) k (i+1) (b5 oqd ts oqd.length 0 v a).1 (b5 oqd ts oqd.length 0 v a).2
  have y:=J' (oqd:=oqd) (ts:=ts) oqd.length 0 v a
  omega
theorem M5 {oqd:List Int} {ts:List Task} {Q:Int→Prop} (ho:∀q,q<oqd.length→Q (oqd.g q)):∀(k i:Nat) (v:List Int) (a:List Bool),i+k=oqd.length→(∀x∈v,Q x)→∀x∈(b5 oqd ts k i v a).1,Q x
 | 0,i,v,a,_,hv=>by rw[b5];exact hv
 | k+1,i,v,a,e,hv=>by
  rw[b5]
  cases jA ts a (oqd.g i) with
  | true=>
   rw[ao]
   intro x hx
   rcases List.mem_append.1 hx with h | h
   · exact hv x h
   · rw[List.mem_singleton.1 h];exact ho i o!
  | false=>exact M5 ho k (i+1) v a o! hv
theorem M6 {oqd:List Int} {ts:List Task} {Q:Int→Prop} (ho:∀q,q<oqd.length→Q (oqd.g q)):∀(k i:Nat) (v:List Int) (a:List Bool),(∀x∈v,Q x)→∀x∈(cH oqd ts k i v a).1,Q x
 | 0,i,v,a,hv=>hv
 | k+1,i,v,a,hv=>by
  rw[cH]
  exact M6 ho k (i+1) _ _ (M5 ho _ 0 v a (Nat.zero_add _) hv)
theorem Kb (ts:List Task) (oqd:List Int) (aE:List Bool) (ho:∀q,q<oqd.length→0≤oqd.g q∧oqd.g q<(ts.length:Int)):(bf ts oqd aE).length≤oqd.length∧∀q,q<(bf ts oqd aE).length→0≤(bf ts oqd aE).g q∧(bf ts oqd aE).g q<(ts.length:Int):=by
 refine ⟨?_,fun q hq=>?_⟩
 · have:=Ka (oqd:=oqd) (ts:=ts) oqd.length 0 [] (cy aE)
   rw[List.length_nil] at this
   rw[bf];omega
 · exact M6 (Q:=fun x=>0≤x∧x<(ts.length:Int)) ho oqd.length 0 [] (cy aE) (fun x h=>by cases h) _ (J7 hq)
theorem Xu {j:bP} {st st':List Int} {T T':List Tl} {v:Int} (p:(∀i,i<st.length→0≤st'.g i∧st'.g i+(j.ab.g i).takes≤100000)∧∀i:Int,0≤i→i≤63→QI j i T→QI j (i+1) T') (hl:st'.length=st.length) (q:QI j v T) (h0:0≤v) (h1:v≤63):(∀ii,ii<st'.length→0≤st'.g ii∧st'.g ii+(j.ab.g ii).takes≤100000)∧QI j (v+1) T':=
 ⟨fun ii hi=>p.1 ii o!,p.2 v h0 h1 q⟩
theorem cE.uf {j:bP} (F:cE j) {i:Nat} (hi:i<j.ab.length):(j.ab.g i).aB.length≤1000000:=by
 have:=adg (n:=j.af.length) (OA (fun q hq=>(F.ur i hi q hq).1) (F.ud i hi)) fun u hu=>by
  obtain ⟨q,hq,e⟩:=Dj hu
  have:=F.ur i hi q hq
  rw[e] at this;omega
 have:=F.nr
 omega
theorem sx {p:Prop} (h:p:=by first | omega | (simp only[List.length_set,List.length_replicate,dQ]<;>omega) | exact hJ _ | exact ku a!):p:=h
def GK:Code:=(Tryz.f84.body).getD .skip
theorem adq:Tryz.f84.body=some GK:=by kernel_rfl
def BW:Code:=(bl GK).getD 0 .skip
def rF (j:bP) (aE:List Bool) (aj:List Int) (tqk:Int) (iD:Int):List Bool×List Int:=((aE.set tqk.toNat true),(aj.set tqk.toNat iD))
theorem adr {d:Nat} {h hh:az} {bq pqN bt sqN:Nat} (j:bP) (aE:List Bool) (aj:List Int) (tqk:Int) (iD:Int) (b7:aK.ok h j) (dU:hh.get bq=some (aN.cells (bs aE) 4 false)) (Dd:aE.length=pqN) (Jo:h.get bq=none) (dH:hh.get bt=some (aN.cells (zs .i64 aj) 3 false)) (Jp:aj.length=sqN) (Jq:h.get bt=none) (mf:0≤tqk) (oQ:tqk<(j.ab.length:Int)) (xU:aE.length=j.ab.length) (Ak:aj.length=j.ab.length) (Ha:((j.ab.g tqk.toNat).aB).length=0) (aj6:bt≠bq) (bM:Tidy h) (aF:Tidy hh) (aA:Has h hh) (fN:h.nx≤hh.nx):∃hk,cA (d+3) (.fn 84) [(AV.agg [j.au,j.ar,(AV.slice bq 0 pqN pqN false),(AV.slice bt 0 sqN sqN false),AV.aw]),(Zi tqk),(Zi iD)] hh= .ret (AV.tuple []) hk∧Tidy hk∧hh.nx≤hk.nx∧Has h hk∧hk.get bq=some (aN.cells (bs (rF j aE aj tqk iD).1) 4 false)∧((rF j aE aj tqk iD).1).length=pqN∧hk.get bt=some (aN.cells (zs .i64 (rF j aE aj tqk iD).2) 3 false)∧((rF j aE aj tqk iD).2).length=sqN:=by
 have l7:=b7.1.small
 have l8:=b7.2.small
 have Jr:=aF _ _ dU
 have Js:=aF _ _ dH
 obtain ⟨h1,dw,de,jW,bx,ca⟩:=gQ aF (aN.cells [j.au,j.ar,(AV.slice bq 0 pqN pqN false),(AV.slice bt 0 sqN sqN false),AV.aw] 103 false)
 have bD:=aA.trans ca
 obtain ⟨p3,q4,mu⟩:=b7.1.elem (i:=tqk.toNat) o!
 have gh:=xn mu o!
 have kN:=(b7.1.has bD).load o! mu
 obtain ⟨h6,kV,ig,uz,jc,bB⟩:=gQ de (aN.cells [(AV.str []),(Zi 0),AV.aw,AV.aw] 48 false)
 have gL:=bD.trans bB
 have C6:=((b7.1.ok (i:=tqk.toNat) o!).2.1).scalar
 have MQ:=((b7.1.ok (i:=tqk.toNat) o!).2.2).scalar
 obtain ⟨h7,jw,dM,r5,dS,aX⟩:=j_ (t:=48) (n:=4) (i:=h1.nx) (L:=[(AV.str (j.ab.g tqk.toNat).name),(Zi (j.ab.g tqk.toNat).takes),(j.ab.g tqk.toNat).bh,(j.ab.g tqk.toNat).bo]) ig jc k! rfl rfl (kJ rfl (kJ rfl (kJ C6 (kJ MQ rfl))))
 have cV:=Has.bK gL aX bM o!
 have Rx:hG env (some (.slice 4)) (some (AV.slice bq 0 pqN pqN false)) (some (Zi tqk))=some (AV.ptr bq tqk.toNat):=ic k! (show tqk.toNat<pqN by omega) o!
 obtain ⟨lY,Jt⟩:∃De:az,De=h7.put bq (some (aN.cells (bs (aE.set tqk.toNat true)) 4 false)):=⟨_,rfl⟩
 have C8:eS env h7 4 (AV.ptr bq tqk.toNat) (AV.bool true)=some lY:=by rw[Jt];exact sS k! (aX _ _ o! (bB _ _ (ca _ _ dU))) sx
 have iT:Ll h7 lY bq (aN.cells (bs (aE.set tqk.toNat true)) 4 false):=by rw[Jt];exact jL dM (aX _ _ o! (bB _ _ (ca _ _ dU)))
 have iU:=iT.1
 have Gy:lY.nx=h7.nx:=by rw[Jt];rfl
 have my:=kU iT cV (by first | assumption | exact iZ bM o!)
 have Ls:hG env (some (.slice 3)) (some (AV.slice bt 0 sqN sqN false)) (some (Zi tqk))=some (AV.ptr bt tqk.toNat):=ic k! (show tqk.toNat<sqN by omega) o!
 obtain ⟨rk,yM⟩:∃De:az,De=lY.put bt (some (aN.cells (zs .i64 (aj.set tqk.toNat iD)) 3 false)):=⟨_,rfl⟩
 have rL:eS env lY 3 (AV.ptr bt tqk.toNat) (Zi iD)=some rk:=by rw[yM];exact yD k! (iT.2.2 _ _ o! (aX _ _ o! (bB _ _ (ca _ _ dH)))) sx
 have nL:Ll lY rk bt (aN.cells (zs .i64 (aj.set tqk.toNat iD)) 3 false):=by rw[yM];exact jL iU (iT.2.2 _ _ o! (aX _ _ o! (bB _ _ (ca _ _ dH))))
 have jy:=nL.1
 have Df:rk.nx=lY.nx:=by rw[yM];rfl
 have gG:=kU nL my (by first | assumption | exact iZ bM o!)
 have Uo:=((b7.1.ok (i:=tqk.toNat) o!).2.2).len
 have q15:(decide (0<(((j.ab.g tqk.toNat).aB.length:Nat):Int)))=false:=d!
 have ase:Ev env (cA (d+2)) BW ⟨((AV.agg [j.au,j.ar,(AV.slice bq 0 pqN pqN false),(AV.slice bt 0 sqN sqN false),AV.aw])::(Zi tqk)::(Zi iD)::(Pt hh.nx)::aL::aL::(Pt h1.nx)::aL::aL::(Pt hh.nx)::(Pt hh.nx)::j.au::(Zi tqk)::(AV.ptr p3 q4)::(AV.agg [(AV.str (j.ab.g tqk.toNat).name),(Zi (j.ab.g tqk.toNat).takes),(j.ab.g tqk.toNat).bh,(j.ab.g tqk.toNat).bo])::(AV.ptr hh.nx 2)::(AV.slice bq 0 pqN pqN false)::(Zi tqk)::(AV.ptr hh.nx 3)::(AV.slice bt 0 sqN sqN false)::(Zi tqk)::(Zi iD)::(AV.ptr bq tqk.toNat)::(AV.ptr bt tqk.toNat)::(AV.ptr h1.nx 3)::((j.ab.g tqk.toNat).bo)::(Zn (j.ab.g tqk.toNat).aB.length)::(Zi 0)::iW 19),rk,[],.no⟩ (.exit 0) ⟨((AV.agg [j.au,j.ar,(AV.slice bq 0 pqN pqN false),(AV.slice bt 0 sqN sqN false),AV.aw])::(Zi tqk)::(Zi iD)::(Pt hh.nx)::aL::aL::(Pt h1.nx)::aL::aL::(Pt hh.nx)::(Pt hh.nx)::j.au::(Zi tqk)::(AV.ptr p3 q4)::(AV.agg [(AV.str (j.ab.g tqk.toNat).name),(Zi (j.ab.g tqk.toNat).takes),(j.ab.g tqk.toNat).bh,(j.ab.g tqk.toNat).bo])::(AV.ptr hh.nx 2)::(AV.slice bq 0 pqN pqN false)::(Zi tqk)::(AV.ptr hh.nx 3)::(AV.slice bt 0 sqN sqN false)::(Zi tqk)::(Zi iD)::(AV.ptr bq tqk.toNat)::(AV.ptr bt tqk.toNat)::(AV.ptr h1.nx 3)::((j.ab.g tqk.toNat).bo)::(Zn (j.ab.g tqk.toNat).aB.length)::(Zi 0)::(AV.bool (decide (0<(((j.ab.g tqk.toNat).aB.length:Nat):Int))))::iW 18),rk,[],.no⟩:=Ev.to (pk (d+2) BW ((AV.agg [j.au,j.ar,(AV.slice bq 0 pqN pqN false),(AV.slice bt 0 sqN sqN false),AV.aw])::(Zi tqk)::(Zi iD)::(Pt hh.nx)::aL::aL::(Pt h1.nx)::aL::aL::(Pt hh.nx)::(Pt hh.nx)::j.au::(Zi tqk)::(AV.ptr p3 q4)::(AV.agg [(AV.str (j.ab.g tqk.toNat).name),(Zi (j.ab.g tqk.toNat).takes),(j.ab.g tqk.toNat).bh,(j.ab.g tqk.toNat).bo])::(AV.ptr hh.nx 2)::(AV.slice bq 0 pqN pqN false)::(Zi tqk)::(AV.ptr hh.nx 3)::(AV.slice bt 0 sqN sqN false)::(Zi tqk)::(Zi iD)::(AV.ptr bq tqk.toNat)::(AV.ptr bt tqk.toNat)::(AV.ptr h1.nx 3)::((j.ab.g tqk.toNat).bo)::(Zn (j.ab.g tqk.toNat).aB.length)::(Zi 0)::iW 19) rk (.exit 0) rk (VV (bE 3 false false .i64 0 (((j.ab.g tqk.toNat).aB.length:Nat):Int))<|BB q15<|ZZ) k!) k!
 have e:rF j aE aj tqk iD=((aE.set tqk.toNat true),(aj.set tqk.toNat iD)):=by simp only[rF,ao,ai]
 rw[e]
 exact iE rfl (aY Tryz.func84 adq rfl (.inl rfl) (pk (d+2) _ _ hh _ rk (NN dw (fun i=>(Pt i))<|CN 2<|MM (aP 22 0 j.au bx k!)<|CC<|VV gh<|MM kN<|NN kV (fun i=>(Pt i))<|SS jw<|CC<|MM (aP 96 2 (AV.slice bq 0 pqN pqN false) (aX _ _ o! (bB _ _ bx)) k!)<|CN 2<|MM (aP 26 3 (AV.slice bt 0 sqN sqN false) (aX _ _ o! (bB _ _ bx)) k!)<|CN 2<|VV Rx<|SS C8<|VV Ls<|SS rL<|HH (aP 96 2 (AV.slice bq 0 pqN pqN false) (aX _ _ o! (bB _ _ bx)) k!)<|HH (show AV.same 20 (AV.slice bq 0 pqN pqN false) (AV.slice bq 0 pqN pqN false)=true from gy 19 _ _ _ _ _)<|HH (aP 26 3 (AV.slice bt 0 sqN sqN false) (aX _ _ o! (bB _ _ bx)) k!)<|HH (show AV.same 20 (AV.slice bt 0 sqN sqN false) (AV.slice bt 0 sqN sqN false)=true from gy 19 _ _ _ _ _)<|HH (aP 26 3 (AV.slice bt 0 sqN sqN false) (iT.2.2 _ _ o! (aX _ _ o! (bB _ _ bx))) k!)<|HH (show AV.same 20 (AV.slice bt 0 sqN sqN false) (AV.slice bt 0 sqN sqN false)=true from gy 19 _ _ _ _ _)<|CC<|MM (aP 46 3 (j.ab.g tqk.toNat).bo (nL.2.2 _ _ o! (iT.2.2 _ _ o! dS)) k!)<|VV Uo<|CC<|LL (show Ev env (cA (d+2)) (.loop BW) ⟨((AV.agg [j.au,j.ar,(AV.slice bq 0 pqN pqN false),(AV.slice bt 0 sqN sqN false),AV.aw])::(Zi tqk)::(Zi iD)::(Pt hh.nx)::aL::aL::(Pt h1.nx)::aL::aL::(Pt hh.nx)::(Pt hh.nx)::j.au::(Zi tqk)::(AV.ptr p3 q4)::(AV.agg [(AV.str (j.ab.g tqk.toNat).name),(Zi (j.ab.g tqk.toNat).takes),(j.ab.g tqk.toNat).bh,(j.ab.g tqk.toNat).bo])::(AV.ptr hh.nx 2)::(AV.slice bq 0 pqN pqN false)::(Zi tqk)::(AV.ptr hh.nx 3)::(AV.slice bt 0 sqN sqN false)::(Zi tqk)::(Zi iD)::(AV.ptr bq tqk.toNat)::(AV.ptr bt tqk.toNat)::(AV.ptr h1.nx 3)::((j.ab.g tqk.toNat).bo)::(Zn (j.ab.g tqk.toNat).aB.length)::(Zi 0)::iW 19),rk,[],.no⟩ (.exit 0) ⟨((AV.agg [j.au,j.ar,(AV.slice bq 0 pqN pqN false),(AV.slice bt 0 sqN sqN false),AV.aw])::(Zi tqk)::(Zi iD)::(Pt hh.nx)::aL::aL::(Pt h1.nx)::aL::aL::(Pt hh.nx)::(Pt hh.nx)::j.au::(Zi tqk)::(AV.ptr p3 q4)::(AV.agg [(AV.str (j.ab.g tqk.toNat).name),(Zi (j.ab.g tqk.toNat).takes),(j.ab.g tqk.toNat).bh,(j.ab.g tqk.toNat).bo])::(AV.ptr hh.nx 2)::(AV.slice bq 0 pqN pqN false)::(Zi tqk)::(AV.ptr hh.nx 3)::(AV.slice bt 0 sqN sqN false)::(Zi tqk)::(Zi iD)::(AV.ptr bq tqk.toNat)::(AV.ptr bt tqk.toNat)::(AV.ptr h1.nx 3)::((j.ab.g tqk.toNat).bo)::(Zn (j.ab.g tqk.toNat).aB.length)::(Zi 0)::(AV.bool (decide (0<(((j.ab.g tqk.toNat).aB.length:Nat):Int))))::iW 18),rk,[],.no⟩ from (Ev.out ase))<|ZZ) k!) k!) aF jy o! ⟨gG,(nL.2.2 _ _ o! iT.2.1),sx,nL.2.1,sx⟩ (fun q=>⟨aA,eL q dU (nL.2.2 _ _ o! iT.2.1),sx,eL q dH nL.2.1,sx⟩)



def GM:Code:=(Tryz.f69.body).getD .skip
theorem vx:Tryz.f69.body=some GM:=by kernel_rfl
def U4:Code:=(bl GM).getD 0 .skip
def eh (s:List UInt8):Nat→Nat→Option (Bool)
 | 0,_=>none
 | dx+1,i0=>(bif (decide ((((s.g i0).toNat:Nat):Int)<97)) then (bif (decide ((((s.g i0).toNat:Nat):Int)<48)) then (bif (!decide ((((s.g i0).toNat:Nat):Int)=45)) then some false else eh s dx (i0+1)) else (bif (decide (57<(((s.g i0).toNat:Nat):Int))) then (bif (!decide ((((s.g i0).toNat:Nat):Int)=45)) then some false else eh s dx (i0+1)) else eh s dx (i0+1))) else (bif (decide (122<(((s.g i0).toNat:Nat):Int))) then (bif (decide ((((s.g i0).toNat:Nat):Int)<48)) then (bif (!decide ((((s.g i0).toNat:Nat):Int)=45)) then some false else eh s dx (i0+1)) else (bif (decide (57<(((s.g i0).toNat:Nat):Int))) then (bif (!decide ((((s.g i0).toNat:Nat):Int)=45)) then some false else eh s dx (i0+1)) else eh s dx (i0+1))) else eh s dx (i0+1)))
theorem lC {d:Nat} {h:az} (s:List UInt8) (bp:s.length<2^60):∀(k_ i_:Nat) (_:i_+k_=(List.length s)) (x:Nat→AV) (hh:az) (aF:Tidy hh) (aA:Has h hh),aC (cA (d)) U4 ⟨((AV.str s)::(x 1)::(x 2)::(Zn i_)::rx x 4 46 []),hh,[],.no⟩ (.exit 0) hh (fun y=>((AV.str s)::rx y 1 49 [])) (fun r y=>((AV.str s)::(y 1)::(AV.bool r)::rx y 3 47 [])) (eh s k_ i_)
 | 0,i0,eZ,x,hh,aF,aA=>by
  have q2:(decide (((i0:Nat):Int)<((List.length s:Nat):Int)))=false:=d!
  exact aC.out rfl (pk (d) _ _ hh _ hh (CN 3<|VV (bE 3 false false .i64 ((i0:Nat):Int) ((List.length s:Nat):Int))<|BB q2<|ZZ) k!) (Grow.refl aF) k!
 | dx+1,i0,eZ,x,hh,aF,aA=>by
  have q2:(decide (((i0:Nat):Int)<((List.length s:Nat):Int)))=true:=d!
  have oH:Bk env (some .string) (some (AV.str s)) (some (Zn i0))=some (AV.int .u8 (((s.g i0).toNat:Nat):Int)):=rZ (j:=i0) o!
  have ei:=fun {al ps} (k:Pk al _ ps)=>(CN 3<|VV (bE 3 false false .i64 ((i0:Nat):Int) ((List.length s:Nat):Int))<|BB q2<|CN 2<|VV oH<|CN 2<|k:Pk _ [] ps)
  rcases bu (decide ((((s.g i0).toNat:Nat):Int)<97)) with f1 | f1
  · rcases bu (decide ((((s.g i0).toNat:Nat):Int)<48)) with f2 | f2
    · have gK:=fun {al ps} (k:Pk al _ ps)=>(ei<|VV (bE 5 false true .u8 (((s.g i0).toNat:Nat):Int) 97)<|CC<|BB f1<|BV f1 (tR true f1)<|CC<|TT<|CC<|TT<|VV (bE 5 false true .u8 (((s.g i0).toNat:Nat):Int) 48)<|TT<|CC<|BB f2<|BB f2<|TT<|VV (tR true f2)<|CN 2<|TT<|CC<|TT<|VV (kt 5 false true .u8 (((s.g i0).toNat:Nat):Int) 45)<|CC<|k:Pk _ [] ps)
      rcases bu (!decide ((((s.g i0).toNat:Nat):Int)=45)) with f3 | f3
      · exact aC.ret false (by simp only[eh,f1,f2,f3,ao,ai]) (pk (d) _ _ hh _ hh (gK<|BC f3<|ZZ) k!) (Grow.refl aF) k!
      · have u7:=eA 3 false true i0 1 o!
        exact aC.round (by simp only[eh,f1,f2,f3,ao,ai]) (pk (d) _ _ hh _ hh (gK<|BC f3<|VV u7<|CC<|ZZ) k!) (Grow.refl aF) _ k! (fun x=>lC s bp dx (i0+1) o! x hh aF aA)
    · rcases bu (decide (57<(((s.g i0).toNat:Nat):Int))) with f3 | f3
      · rcases bu (!decide ((((s.g i0).toNat:Nat):Int)=45)) with f4 | f4
        · exact aC.ret false (by simp only[eh,f1,f2,f3,f4,ao,ai]) (pk (d) _ _ hh _ hh (ei<|VV (bE 5 false true .u8 (((s.g i0).toNat:Nat):Int) 97)<|CC<|BB f1<|BV f1 (tR true f1)<|CC<|TT<|CC<|TT<|VV (bE 5 false true .u8 (((s.g i0).toNat:Nat):Int) 48)<|TT<|CC<|BC f2<|BV f2 (gz 5 false true .u8 (((s.g i0).toNat:Nat):Int) 57)<|TT<|VV (dD (a:=some (AV.bool true)) (b:=some (AV.bool (decide (57<(((s.g i0).toNat:Nat):Int))))) f2)<|CN 2<|BC f3<|BV f3 (kt 5 false true .u8 (((s.g i0).toNat:Nat):Int) 45)<|VV (tp (!decide ((((s.g i0).toNat:Nat):Int)=45)) false f3)<|BC f4<|ZZ) k!) (Grow.refl aF) k!
        · have u8:=eA 3 false true i0 1 o!
          exact aC.round (by simp only[eh,f1,f2,f3,f4,ao,ai]) (pk (d) _ _ hh _ hh (ei<|VV (bE 5 false true .u8 (((s.g i0).toNat:Nat):Int) 97)<|CC<|BB f1<|BV f1 (tR true f1)<|CC<|TT<|CC<|TT<|VV (bE 5 false true .u8 (((s.g i0).toNat:Nat):Int) 48)<|TT<|CC<|BC f2<|BV f2 (gz 5 false true .u8 (((s.g i0).toNat:Nat):Int) 57)<|TT<|VV (dD (a:=some (AV.bool true)) (b:=some (AV.bool (decide (57<(((s.g i0).toNat:Nat):Int))))) f2)<|CN 2<|BC f3<|BV f3 (kt 5 false true .u8 (((s.g i0).toNat:Nat):Int) 45)<|VV (tp (!decide ((((s.g i0).toNat:Nat):Int)=45)) false f3)<|BC f4<|VV u8<|CC<|ZZ) k!) (Grow.refl aF) _ k! (fun x=>lC s bp dx (i0+1) o! x hh aF aA)
      · have u7:=eA 3 false true i0 1 o!
        exact aC.round (by simp only[eh,f1,f2,f3,ao,ai]) (pk (d) _ _ hh _ hh (ei<|VV (bE 5 false true .u8 (((s.g i0).toNat:Nat):Int) 97)<|CC<|BB f1<|BV f1 (tR true f1)<|CC<|TT<|CC<|TT<|VV (bE 5 false true .u8 (((s.g i0).toNat:Nat):Int) 48)<|TT<|CC<|BC f2<|BV f2 (gz 5 false true .u8 (((s.g i0).toNat:Nat):Int) 57)<|TT<|VV (dD (a:=some (AV.bool true)) (b:=some (AV.bool (decide (57<(((s.g i0).toNat:Nat):Int))))) f2)<|CN 2<|BB f3<|BV f3 (vd false f3)<|FF<|CC<|VV u7<|CC<|ZZ) k!) (Grow.refl aF) _ k! (fun x=>lC s bp dx (i0+1) o! x hh aF aA)
  · rcases bu (decide (122<(((s.g i0).toNat:Nat):Int))) with f2 | f2
    · rcases bu (decide ((((s.g i0).toNat:Nat):Int)<48)) with f3 | f3
      · rcases bu (!decide ((((s.g i0).toNat:Nat):Int)=45)) with f4 | f4
        · exact aC.ret false (by simp only[eh,f1,f2,f3,f4,ao,ai]) (pk (d) _ _ hh _ hh (ei<|VV (bE 5 false true .u8 (((s.g i0).toNat:Nat):Int) 97)<|CC<|BC f1<|BV f1 (gz 5 false true .u8 (((s.g i0).toNat:Nat):Int) 122)<|VV (dD (a:=some (AV.bool true)) (b:=some (AV.bool (decide (122<(((s.g i0).toNat:Nat):Int))))) f1)<|CC<|BC f2<|BV f2 (bE 5 false true .u8 (((s.g i0).toNat:Nat):Int) 48)<|BC f2<|BB f3<|BB f3<|BV f2 (tR true f3)<|VV (tp true false f2)<|CC<|TT<|CC<|TT<|VV (kt 5 false true .u8 (((s.g i0).toNat:Nat):Int) 45)<|CC<|BC f4<|ZZ) k!) (Grow.refl aF) k!
        · have u8:=eA 3 false true i0 1 o!
          exact aC.round (by simp only[eh,f1,f2,f3,f4,ao,ai]) (pk (d) _ _ hh _ hh (ei<|VV (bE 5 false true .u8 (((s.g i0).toNat:Nat):Int) 97)<|CC<|BC f1<|BV f1 (gz 5 false true .u8 (((s.g i0).toNat:Nat):Int) 122)<|VV (dD (a:=some (AV.bool true)) (b:=some (AV.bool (decide (122<(((s.g i0).toNat:Nat):Int))))) f1)<|CC<|BC f2<|BV f2 (bE 5 false true .u8 (((s.g i0).toNat:Nat):Int) 48)<|BC f2<|BB f3<|BB f3<|BV f2 (tR true f3)<|VV (tp true false f2)<|CC<|TT<|CC<|TT<|VV (kt 5 false true .u8 (((s.g i0).toNat:Nat):Int) 45)<|CC<|BC f4<|VV u8<|CC<|ZZ) k!) (Grow.refl aF) _ k! (fun x=>lC s bp dx (i0+1) o! x hh aF aA)
      · rcases bu (decide (57<(((s.g i0).toNat:Nat):Int))) with f4 | f4
        · have n9:=fun {al ps} (k:Pk al _ ps)=>(ei<|VV (bE 5 false true .u8 (((s.g i0).toNat:Nat):Int) 97)<|CC<|BC f1<|BV f1 (gz 5 false true .u8 (((s.g i0).toNat:Nat):Int) 122)<|VV (dD (a:=some (AV.bool true)) (b:=some (AV.bool (decide (122<(((s.g i0).toNat:Nat):Int))))) f1)<|CC<|BC f2<|BV f2 (bE 5 false true .u8 (((s.g i0).toNat:Nat):Int) 48)<|BC f2<|BC f3<|BV f3 (gz 5 false true .u8 (((s.g i0).toNat:Nat):Int) 57)<|BV f2 (dD (a:=some (AV.bool true)) (b:=some (AV.bool (decide (57<(((s.g i0).toNat:Nat):Int))))) f3)<|VV (tp (decide (57<(((s.g i0).toNat:Nat):Int))) false f2)<|CC<|BC f4<|BV f4 (kt 5 false true .u8 (((s.g i0).toNat:Nat):Int) 45)<|VV (tp (!decide ((((s.g i0).toNat:Nat):Int)=45)) false f4)<|k:Pk _ [] ps)
          rcases bu (!decide ((((s.g i0).toNat:Nat):Int)=45)) with f5 | f5
          · exact aC.ret false (by simp only[eh,f1,f2,f3,f4,f5,ao,ai]) (pk (d) _ _ hh _ hh (n9<|BC f5<|ZZ) k!) (Grow.refl aF) k!
          · have u9:=eA 3 false true i0 1 o!
            exact aC.round (by simp only[eh,f1,f2,f3,f4,f5,ao,ai]) (pk (d) _ _ hh _ hh (n9<|BC f5<|VV u9<|CC<|ZZ) k!) (Grow.refl aF) _ k! (fun x=>lC s bp dx (i0+1) o! x hh aF aA)
        · have u8:=eA 3 false true i0 1 o!
          exact aC.round (by simp only[eh,f1,f2,f3,f4,ao,ai]) (pk (d) _ _ hh _ hh (ei<|VV (bE 5 false true .u8 (((s.g i0).toNat:Nat):Int) 97)<|CC<|BC f1<|BV f1 (gz 5 false true .u8 (((s.g i0).toNat:Nat):Int) 122)<|VV (dD (a:=some (AV.bool true)) (b:=some (AV.bool (decide (122<(((s.g i0).toNat:Nat):Int))))) f1)<|CC<|BC f2<|BV f2 (bE 5 false true .u8 (((s.g i0).toNat:Nat):Int) 48)<|BC f2<|BC f3<|BV f3 (gz 5 false true .u8 (((s.g i0).toNat:Nat):Int) 57)<|BV f2 (dD (a:=some (AV.bool true)) (b:=some (AV.bool (decide (57<(((s.g i0).toNat:Nat):Int))))) f3)<|VV (tp (decide (57<(((s.g i0).toNat:Nat):Int))) false f2)<|CC<|BB f4<|BV f4 (vd false f4)<|FF<|CC<|VV u8<|CC<|ZZ) k!) (Grow.refl aF) _ k! (fun x=>lC s bp dx (i0+1) o! x hh aF aA)
    · have u6:=eA 3 false true i0 1 o!
      exact aC.round (by simp only[eh,f1,f2,ao,ai]) (pk (d) _ _ hh _ hh (ei<|VV (bE 5 false true .u8 (((s.g i0).toNat:Nat):Int) 97)<|CC<|BC f1<|BV f1 (gz 5 false true .u8 (((s.g i0).toNat:Nat):Int) 122)<|VV (dD (a:=some (AV.bool true)) (b:=some (AV.bool (decide (122<(((s.g i0).toNat:Nat):Int))))) f1)<|CC<|BB f2<|BB f2<|BB f2<|BV f2 (vd false f2)<|CC<|FF<|FF<|CC<|FF<|CC<|VV u6<|CC<|ZZ) k!) (Grow.refl aF) _ k! (fun x=>lC s bp dx (i0+1) o! x hh aF aA)
def gk (s:List UInt8):Bool:=(bif (decide (((List.length s:Nat):Int)=0)) then false else (bif (decide (16<((List.length s:Nat):Int))) then false else (bif (decide ((((s.g 0).toNat:Nat):Int)<97)) then false else (bif (decide (122<(((s.g 0).toNat:Nat):Int))) then false else (match (eh s (List.length s) 0) with | none=>true | some rr8=>rr8)))))
theorem Sm {d:Nat} {h:az} (s:List UInt8) (Cg:s.length<2^60) (bM:Tidy h):cA (d+1) (.fn 69) [(AV.str s)] h= .ret (AV.bool (gk s)) h:=by
 have sn1:s.length<2^60:=Cg
 have s5:=fun {al ps} (k:Pk al _ ps)=>(CN 3<|VV (Bo 3 false true .i64 ((List.length s:Nat):Int) 0)<|CC<|k:Pk _ [] ps)
 rcases bu (decide (((List.length s:Nat):Int)=0)) with f0 | f0
 · have ja:=jv f0
   have e:gk s=false:=by simp only[gk,f0,ao,ai]
   rw[e]
   exact aG rfl (aY Tryz.func69 vx rfl (.inr rfl) (pk (d) _ _ h _ h (s5<|BB f0<|BB f0<|BV f0 (tR true f0)<|CC<|TT<|TT<|TT<|CN 2<|TT<|TT<|TT<|CC<|TT<|CC<|ZZ) k!) k!) (Has.refl _) rfl
 · have ja:=pK f0
   have vR:=fun {al ps} (k:Pk al _ ps)=>(s5<|BC f0<|BC f0<|BV f0 (gz 3 false true .i64 ((List.length s:Nat):Int) 16)<|VV (dD (a:=some (AV.bool true)) (b:=some (AV.bool (decide (16<((List.length s:Nat):Int))))) f0)<|CC<|k:Pk _ [] ps)
   rcases bu (decide (16<((List.length s:Nat):Int))) with f1 | f1
   · have eB:=jv f1
     have e:gk s=false:=by simp only[gk,f0,f1,ao,ai]
     rw[e]
     exact aG rfl (aY Tryz.func69 vx rfl (.inr rfl) (pk (d) _ _ h _ h (vR<|BB f1<|BB f1<|BV f1 (tR true f1)<|CC<|TT<|TT<|TT<|CC<|TT<|CC<|ZZ) k!) k!) (Has.refl _) rfl
   · have eB:=pK f1
     have T5:Bk env (some .string) (some (AV.str s)) (some (Zi 0))=some (AV.int .u8 (((s.g 0).toNat:Nat):Int)):=rZ (j:=0) o!
     have Fw:=fun {al ps} (k:Pk al _ ps)=>(vR<|BC f1<|BV f1 T5<|BV f1 (bE 5 false true .u8 (((s.g 0).toNat:Nat):Int) 97)<|VV (dD (a:=some (AV.bool true)) (b:=some (AV.bool (decide ((((s.g 0).toNat:Nat):Int)<97)))) f1)<|CC<|k:Pk _ [] ps)
     rcases bu (decide ((((s.g 0).toNat:Nat):Int)<97)) with f2 | f2
     · have pX:=jv f2
       have e:gk s=false:=by simp only[gk,f0,f1,f2,ao,ai]
       rw[e]
       exact aG rfl (aY Tryz.func69 vx rfl (.inr rfl) (pk (d) _ _ h _ h (Fw<|BB f2<|BB f2<|BV f2 (tR true f2)<|TT<|CC<|ZZ) k!) k!) (Has.refl _) rfl
     · have pX:=pK f2
       have MH:Bk env (some .string) (some (AV.str s)) (some (Zi 0))=some (AV.int .u8 (((s.g 0).toNat:Nat):Int)):=rZ (j:=0) o!
       have Ex:=fun {al ps} (k:Pk al _ ps)=>(Fw<|BC f2<|BV f2 MH<|BV f2 (gz 5 false true .u8 (((s.g 0).toNat:Nat):Int) 122)<|VV (dD (a:=some (AV.bool true)) (b:=some (AV.bool (decide (122<(((s.g 0).toNat:Nat):Int))))) f2)<|k:Pk _ [] ps)
       rcases bu (decide (122<(((s.g 0).toNat:Nat):Int))) with f3 | f3
       · have e:gk s=false:=by simp only[gk,f0,f1,f2,f3,ao,ai]
         rw[e]
         exact aG rfl (aY Tryz.func69 vx rfl (.inr rfl) (pk (d) _ _ h _ h (Ex<|BC f3<|ZZ) k!) k!) (Has.refl _) rfl
       · have lp8:=lC (d:=d) (h:=h) s Cg (List.length s) 0 o! (dr ((AV.str s)::aL::(AV.bool false)::(Zi 0)::aL::(AV.str s)::(Zn (List.length s))::(AV.bool (decide (((List.length s:Nat):Int)=0)))::(AV.bool (decide (((List.length s:Nat):Int)=0)))::(AV.str s)::(Zn (List.length s))::(AV.bool (decide (16<((List.length s:Nat):Int))))::(AV.bool (decide (16<((List.length s:Nat):Int))))::(AV.bool (decide (16<((List.length s:Nat):Int))))::(AV.str s)::(AV.int .u8 (((s.g 0).toNat:Nat):Int))::(AV.bool (decide ((((s.g 0).toNat:Nat):Int)<97)))::(AV.bool (decide ((((s.g 0).toNat:Nat):Int)<97)))::(AV.bool (decide ((((s.g 0).toNat:Nat):Int)<97)))::(AV.str s)::(AV.int .u8 (((s.g 0).toNat:Nat):Int))::(AV.bool (decide (122<(((s.g 0).toNat:Nat):Int))))::(AV.bool (decide (122<(((s.g 0).toNat:Nat):Int))))::iW 27)) h bM (Has.refl _)
         cases ox:eh s (List.length s) 0 with
         | none=>
          obtain ⟨E0,h9,ot,vy⟩:=aC.n ox lp8
          have nz:=vy.a
          have e:gk s=true:=by simp only[gk,f0,f1,f2,f3,ox,ao,ai]
          rw[e]
          exact aG rfl (aY Tryz.func69 vx rfl (.inr rfl) (pk (d) _ _ h _ h9 (Ex<|BC f3<|LL ot<|CC<|ZZ) k!) k!) nz rfl
         | some rr8=>
          obtain ⟨E0,h9,ot,vy⟩:=aC.r ox lp8
          have nz:=vy.a
          have e:gk s=rr8:=by simp only[gk,f0,f1,f2,f3,ox,ao,ai]
          rw[e]
          exact aG rfl (aY Tryz.func69 vx rfl (.inr rfl) (pk (d) _ _ h _ h9 (Ex<|BC f3<|LL ot<|ZZ) k!) k!) nz rfl
end
end Go.Proofs.aM
