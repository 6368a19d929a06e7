import Derived.Test.YtogcojohajankaaGreatW0
import Derived.Test.YtogcojohajankaaGreatW1
import Derived.Test.YtogcojohajankaaGreatW8
import Derived.Test.YtogcojohajankaaGreatW2
import Derived.Test.YtogcojohajankaaGreatW7
namespace Go.Proofs.aJ
open Go.Proofs Ab
set_option maxRecDepth 100000
set_option maxHeartbeats 4000000
set_option linter.unusedVariables false
set_option linter.unusedSimpArgs false
theorem eE {p:Prop} (h:p:=by first | omega | assumption | exact (Ui task.toNat o!).1 | exact fun q hq=>(ND q hq).1):p:=h
theorem zv {p:Prop} (h:p:=by first | omega | exact ⟨Lw fV.1,El fV.2 (eb_ o!).2⟩):p:=h
theorem zw {p:Prop} (h:p:=by first | assumption | exact hG ct o!):p:=h
theorem tZ {p:Prop} (h:p:=by first | omega | (simp<;>omega)):p:=h
noncomputable def ua:Code:=(Tryz.f52.body).getD .skip
theorem Jr:Tryz.f52.body=some ua:=by kernel_rfl
noncomputable def Ok:Code:=(bw ua).getD 0 .skip
noncomputable def Ol:Code:=(bw ua).getD 1 .skip
def bE (j:cG) (ar:List Int) (task:Int):Nat→Nat→Int→Int
 | 0,_,lW=>lW
 | cS+1,i0,lW=>bE j ar task cS (i0+1) (imax lW (jo j ar (((j.ab.g task.toNat).ax).g i0)))
theorem Be {d:Nat} {h:aw} (task:Int) (j:cG) (placedN:Nat) (startsN:Nat) (talliesN:Nat) (talliesF:Bool) (aj:List Bool) (ar:List Int) (aL:List Tl) (from_:Int) (a_:Nat) (cx:Nat) (fj:Nat) (iT:Nat) (rA:Nat) (bb:aM h j.ao j.ab) (cf:aM h j.ai j.af) (dc:bS h .i64 3 ((j.ab.g task.toNat).aO) ((j.ab.g task.toNat).ax)) (iU:((j.ab.g task.toNat).name).length<2^60) (tJ:aM h ((j.ab.g task.toNat).aS) ((j.ab.g task.toNat).au)) (fW:aG.ok h j) (F8:aG.ok h (j.ab.g task.toNat)) (fq:0≤task) (hH:task<(j.ab.length:Int)) (ly:aj.length=j.ab.length) (mw:ar.length=j.ab.length) (l8:∀q,q<(j.ab.g task.toNat).au.length→0≤((j.ab.g task.toNat).au.g q).ah∧((j.ab.g task.toNat).au.g q).ah<(aL.length:Int)) (mO:∀a,a<(j.ab.g task.toNat).au.length→∀b,a<b→b<(j.ab.g task.toNat).au.length→((j.ab.g task.toNat).au.g a).ah≠((j.ab.g task.toNat).au.g b).ah) (Cg:∀i,i<j.ab.length→∀q,q<(j.ab.g i).ax.length→0≤(j.ab.g i).ax.g q∧(j.ab.g i).ax.g q<(j.ab.length:Int)) (F9:∀i,i<j.ab.length→0≤(j.ab.g i).takes∧(j.ab.g i).takes≤100000) (HQ:∀i,i<ar.length→0≤ar.g i∧ar.g i+(j.ab.g i).takes≤100000) (F_:∀q,q<(j.ab.g task.toNat).au.length→Az 159 (aL.g (Int.toNat ((j.ab.g task.toNat).au.g q).ah))∧YM (aL.g (Int.toNat ((j.ab.g task.toNat).au.g q).ah))) (vT:0≤from_) (Om:from_≤100000) (On:(j.ab.g task.toNat).au.length≤1000000) (YP:startsN=ar.length) (YQ:aL.length=talliesN):∀(k_ i_:Nat) (lW:Int) (_:i_+k_=(((j.ab.g task.toNat).ax).length)) (_:(0≤lW∧lW≤100000)) (x:Nat→AV) (hh:aw) (aA:Tidy hh) (ay:Has h hh) (bh:hh.get a_=some (aH.cells [j.ao,j.ai,(AV.slice fj 0 placedN placedN false),(AV.slice iT 0 startsN startsN false),(AV.slice rA 0 talliesN talliesN talliesF)] 76 false)) (cV:hh.get cx=some (aH.cells [(AV.str ((j.ab.g task.toNat).name)),(Zi ((j.ab.g task.toNat).takes)),((j.ab.g task.toNat).aO),((j.ab.g task.toNat).aS)] 39 false)) (gW:hh.get fj=some (aH.cells (bs aj) 4 false)) (kt:hh.get iT=some (aH.cells (zs .i64 ar) 3 false)) (AK:hh.get rA=some (aH.cells (kL aL) 127 false)),bt (cU (d+3)) Ok ⟨((x 0)::(Zi task)::(Zi lW)::(Pt a_)::rx x 4 3 ((Pt cx)::rx x 8 13 (((j.ab.g task.toNat).aO)::(Zn (((j.ab.g task.toNat).ax).length))::(Zn i_)::rx x 24 49 []))),hh,[],.no⟩ (.exit 0) hh (fun r y=>((y 0)::(Zi task)::(Zi r)::(Pt a_)::rx y 4 3 ((Pt cx)::rx y 8 13 (((j.ab.g task.toNat).aO)::(Zn (((j.ab.g task.toNat).ax).length))::rx y 23 50 [])))) (fun r=>(0≤r∧r≤100000)) (bE j ar task k_ i_ lW)
 | 0,i0,lW,gq,fV,x,hh,aA,ay,bh,cV,gW,kt,AK=>by
   have cr:=bb.small
   have eQ:=cf.small
   have jD:=dc.small
   have yW:=tJ.small
   have ji:=aA _ _ bh
   have vR:=aA _ _ cV
   have DL:=aA _ _ gW
   have KU:=aA _ _ kt
   have ae1:=aA _ _ AK
   have q1:(decide (((i0:Nat):Int)<((((j.ab.g task.toNat).ax).length:Nat):Int)))=false:=d!
   exact bt.out lW rfl (pk (d+3) _ _ hh _ hh (VV (bO 3 false false .i64 ((i0:Nat):Int) ((((j.ab.g task.toNat).ax).length:Nat):Int))<|BB q1<|ZZ) k!) (bp.refl aA) (show (0≤lW∧lW≤100000) from zv) k!
 | cS+1,i0,lW,gq,fV,x,hh,aA,ay,bh,cV,gW,kt,AK=>by
   have cr:=bb.small
   have eQ:=cf.small
   have jD:=dc.small
   have yW:=tJ.small
   have ji:=aA _ _ bh
   have vR:=aA _ _ cV
   have DL:=aA _ _ gW
   have KU:=aA _ _ kt
   have ae1:=aA _ _ AK
   have nb_:=fun hq=>Cg task.toNat o! i0 hq
   have eb_:=fun hq=>QN HQ F9 o! (nb_ hq).1 (nb_ hq).2
   have q1:(decide (((i0:Nat):Int)<((((j.ab.g task.toNat).ax).length:Nat):Int)))=true:=d!
   obtain ⟨p3,q4,cF,_⟩:=(dc.has ay).elem (i:=i0) o!
   have jL:bR env (some (.slice 3)) (some ((j.ab.g task.toNat).aO)) (some (Zn i0))=some (AV.ptr p3 q4):=cF
   have j9:aY env hh 3 (AV.ptr p3 q4)=some (Zi (((j.ab.g task.toNat).ax).g i0)):=(dc.has ay).load o! cF
   have k6:=Jq (d:=d+2) j ar (((j.ab.g task.toNat).ax).g i0) (aG.mono ay fW) (bS.own (op:=false) (n:=startsN) k! k! kt l! o!) eE eE eE aA
   have u7:=dZ 3 false true i0 1 o!
   exact bt.round (by simp only[bE,cond_true,cond_false]) (pk (d+3) _ _ hh _ hh (VV (bO 3 false false .i64 ((i0:Nat):Int) ((((j.ab.g task.toNat).ax).length:Nat):Int))<|BV q1 jL<|MM j9<|CN 3<|MM (aI 25 0 (AV.agg [j.ao,j.ai]) bh k!)<|CC<|MM (aI 26 3 (AV.slice iT 0 startsN startsN false) bh k!)<|CC<|EE k6<|CN 2<|VV u7<|CC<|ZZ) k!) (bp.refl aA) _ k! (fun x=>Be task j placedN startsN talliesN talliesF aj ar aL from_ a_ cx fj iT rA bb cf dc iU tJ fW F8 fq hH ly mw l8 mO Cg F9 HQ F_ vT Om On YP YQ cS (i0+1) (imax lW (jo j ar (((j.ab.g task.toNat).ax).g i0))) o! (show (0≤(imax lW (jo j ar (((j.ab.g task.toNat).ax).g i0)))∧(imax lW (jo j ar (((j.ab.g task.toNat).ax).g i0)))≤100000) from zv) x hh aA ay bh cV gW kt AK)
def eR (qj:Nat) (j:cG) (task:Int):Nat→Nat→List Cl→List Cl
 | 0,_,px=>px
 | nH+1,i1,px=>(bif (decide (0<((j.ab.g task.toNat).takes))) then eR qj j task nH (i1+1) (px++([(⟨qj,0+((((j.ab.g task.toNat).au).g i1).ah).toNat*324,((((j.ab.g task.toNat).au).g i1).aB)⟩:Cl)])) else eR qj j task nH (i1+1) px)
theorem uc {d:Nat} {h:aw} (task:Int) (j:cG) (ar:List Int) (from_:Int) (placedN:Nat) (startsN:Nat) (talliesN:Nat) (talliesF:Bool) (aj:List Bool) (aL:List Tl) (d_:Nat) (gV:Nat) (sg:Nat) (Cd:Nat) (qj:Nat) (db:aM h j.ao j.ab) (ft:aM h j.ai j.af) (nI:aM h ((j.ab.g task.toNat).aS) ((j.ab.g task.toNat).au)) (jJ:((j.ab.g task.toNat).name).length<2^60) (DX:bS h .i64 3 ((j.ab.g task.toNat).aO) ((j.ab.g task.toNat).ax)) (oJ:aG.ok h j) (HN:aG.ok h (j.ab.g task.toNat)) (mP:0≤task) (qJ:task<(j.ab.length:Int)) (ry:aj.length=j.ab.length) (xz:ar.length=j.ab.length) (Ct:∀q,q<(j.ab.g task.toNat).au.length→0≤((j.ab.g task.toNat).au.g q).ah∧((j.ab.g task.toNat).au.g q).ah<(aL.length:Int)) (Cu:∀a,a<(j.ab.g task.toNat).au.length→∀b,a<b→b<(j.ab.g task.toNat).au.length→((j.ab.g task.toNat).au.g a).ah≠((j.ab.g task.toNat).au.g b).ah) (UF:∀i,i<j.ab.length→∀q,q<(j.ab.g i).ax.length→0≤(j.ab.g i).ax.g q∧(j.ab.g i).ax.g q<(j.ab.length:Int)) (UG:∀i,i<j.ab.length→0≤(j.ab.g i).takes∧(j.ab.g i).takes≤100000) (aiD:∀i,i<ar.length→0≤ar.g i∧ar.g i+(j.ab.g i).takes≤100000) (aiE:∀q,q<(j.ab.g task.toNat).au.length→Az 159 (aL.g (Int.toNat ((j.ab.g task.toNat).au.g q).ah))∧YM (aL.g (Int.toNat ((j.ab.g task.toNat).au.g q).ah))) (adE:0≤from_) (adF:from_≤100000) (adG:(j.ab.g task.toNat).au.length≤1000000) (adH:talliesN=aL.length) (adI:aL.length=talliesN) (ct:Tidy h) (cN:h.get d_=some (aH.cells [j.ao,j.ai,(AV.slice sg 0 placedN placedN false),(AV.slice Cd 0 startsN startsN false),(AV.slice qj 0 talliesN talliesN talliesF)] 76 false)) (eh:h.get gV=some (aH.cells [(AV.str ((j.ab.g task.toNat).name)),(Zi ((j.ab.g task.toNat).takes)),((j.ab.g task.toNat).aO),((j.ab.g task.toNat).aS)] 39 false)) (zx:h.get sg=some (aH.cells (bs aj) 4 false)) (ace:h.get Cd=some (aH.cells (zs .i64 ar) 3 false)) (acf:h.get qj=some (aH.cells (kL aL) 127 false)):∀(k_ i_:Nat) (px:List Cl) (z1:AV) (_:i_+k_=(((j.ab.g task.toNat).au).length)) (x:Nat→AV) (hh:aw) (aA:Tidy hh) (ay:Has h hh) (ij:h.nx≤hh.nx) (X3:nQ h hh z1 px) (YR:∀y∈px,aG.ok hh y) (lz1:px.length≤i_),m6 (cU (d+3)) Ol ⟨((x 0)::(Zi task)::(Zi (bE j ar task (((j.ab.g task.toNat).ax).length) 0 from_))::(Pt d_)::rx x 4 3 ((Pt gV)::(x 8)::(x 9)::z1::rx x 11 26 (((j.ab.g task.toNat).aS)::(Zn (((j.ab.g task.toNat).au).length))::(Zn i_)::rx x 40 33 []))),hh,[],.no⟩ (.exit 2) h (fun r z y=>((y 0)::(Zi task)::(Zi (bE j ar task (((j.ab.g task.toNat).ax).length) 0 from_))::(Pt d_)::rx y 4 3 ((Pt gV)::(y 8)::(y 9)::z::rx y 11 26 (((j.ab.g task.toNat).aS)::(Zn (((j.ab.g task.toNat).au).length))::rx y 39 34 [])))) (fun r=>r) (((j.ab.g task.toNat).au).length) (eR qj j task k_ i_ px)
 | 0,i1,px,z1,gq,x,hh,aA,ay,ij,X3,YR,lz1=>by
   have ik:=db.small
   have jY:=ft.small
   have zu:=nI.small
   have QP:=DX.small
   have tG:=ct _ _ cN
   have FV:=ct _ _ eh
   have afM:=ct _ _ zx
   have ak4:=ct _ _ ace
   have ak5:=ct _ _ acf
   have q1:(decide (((i1:Nat):Int)<((((j.ab.g task.toNat).au).length:Nat):Int)))=false:=d!
   exact m6.out px z1 rfl (pk (d+3) _ _ hh _ hh (VV (bO 3 false false .i64 ((i1:Nat):Int) ((((j.ab.g task.toNat).au).length:Nat):Int))<|BB q1<|ZZ) k!) ⟨aA,ay,by omega⟩ X3 YR tZ k!
 | nH+1,i1,px,z1,gq,x,hh,aA,ay,ij,X3,YR,lz1=>by
   have ik:=db.small
   have jY:=ft.small
   have zu:=nI.small
   have QP:=DX.small
   have tG:=ct _ _ cN
   have FV:=ct _ _ eh
   have afM:=ct _ _ zx
   have ak4:=ct _ _ ace
   have ak5:=ct _ _ acf
   have ur_:=Ct i1
   have q1:(decide (((i1:Nat):Int)<((((j.ab.g task.toNat).au).length:Nat):Int)))=true:=d!
   obtain ⟨p3,q4,cF⟩:=(nI.has ay).elem (i:=i1) o!
   have jL:bR env (some (.slice 80)) (some ((j.ab.g task.toNat).aS)) (some (Zn i1))=some (AV.ptr p3 q4):=cF
   have j9:aY env hh 80 (AV.ptr p3 q4)=some (AV.agg [(Zi ((((j.ab.g task.toNat).au).g i1).ah)),(Zi ((((j.ab.g task.toNat).au).g i1).aB))]):=(nI.has ay).load o! cF
   obtain ⟨h6,nU,kM,Ce,nV,cE⟩:=kh aA (aH.cells [(Zi 0),(Zi 0)] 80 false)
   have jA:Has hh h6:=cE
   obtain ⟨h7,m8,eO,xA,f_,bD⟩:=qi (t:=80) (n:=2) (i:=hh.nx) (L:=[(Zi ((((j.ab.g task.toNat).au).g i1).ah)),(Zi ((((j.ab.g task.toNat).au).g i1).aB))]) kM nV k! rfl rfl (by simp only[AV.cells,List.all_cons,List.all_nil,Bool.and_true,Bool.and_self,iE,gd,iF,iG,eP,lF,lG,lH,lI,lJ,iH])
   have du:Has hh h7:=Has.ei jA bD aA o!
   have dR:=fun {al ps} (k:Pk al _ ps)=>(VV (bO 3 false false .i64 ((i1:Nat):Int) ((((j.ab.g task.toNat).au).length:Nat):Int))<|BV q1 jL<|MM j9<|NN nU (fun i=>(Pt i))<|SS m8<|CC<|MM (aI 3 1 (Zi ((j.ab.g task.toNat).takes)) (bD _ _ o! (cE _ _ (ay _ _ eh))) k!)<|VV (dw 3 false true .i64 ((j.ab.g task.toNat).takes) 0)<|k:Pk _ [] ps)
   rcases Bool.eq_false_or_eq_true (decide (0<((j.ab.g task.toNat).takes))) with f1 | f1
   · have dQ:=of_decide_eq_true f1
     have ix9:bR env (some (.slice 127)) (some (AV.slice qj 0 talliesN talliesN talliesF)) (some (Zi ((((j.ab.g task.toNat).au).g i1).ah)))=some (AV.ptr qj (0+((((j.ab.g task.toNat).au).g i1).ah).toNat*324)):=KH (z:=324) (k:=((((j.ab.g task.toNat).au).g i1).ah).toNat) k! o! o!
     obtain ⟨qE,F1,kU,Sf,xY,j_⟩:=kh eO (aH.cells [(AV.func 111 [(AV.ptr qj (0+((((j.ab.g task.toNat).au).g i1).ah).toNat*324))] []),(Zi ((((j.ab.g task.toNat).au).g i1).aB))] 191 false)
     have jm:Has hh qE:=du.trans j_
     obtain ⟨z12,uX,Qm,uD,aid,Sw,afa,ak6⟩:=nQ.app (tys:= #[188,188]) (l:=px) (m:=[(⟨qj,0+((((j.ab.g task.toNat).au).g i1).ah).toNat*324,((((j.ab.g task.toNat).au).g i1).aB)⟩:Cl)]) (x:=(AV.slice h7.nx 0 1 1 false)) kU ct (ay.trans jm) o! (X3.has jm) rfl (FD (x:=(⟨qj,0+((((j.ab.g task.toNat).au).g i1).ah).toNat*324,((((j.ab.g task.toNat).au).g i1).aB)⟩:Cl)) xY) (by simp [aG.c,Cl.c,AV.scalar]) tZ rfl rfl k! k! (bytes:=16) k! (z0:=(AV.agg [AV.nilFunc,(Zi 0)])) k! rfl (by decide)
     have afN:∀y∈(px++([(⟨qj,0+((((j.ab.g task.toNat).au).g i1).ah).toNat*324,((((j.ab.g task.toNat).au).g i1).aB)⟩:Cl)])),aG.ok uX y:=R8 (D:=Cl) (aex (abk jm YR) (ok_one trivial))
     have u14:=dZ 3 false true i1 1 o!
     exact m6.round (by simp only[eR,f1,cond_true,cond_false]) (pk (d+3) _ _ hh _ uX (dR<|BB f1<|CN 2<|MM (aI 74 4 (AV.slice qj 0 talliesN talliesN talliesF) (bD _ _ o! (cE _ _ (ay _ _ cN))) k!)<|CC<|MM (aI 3 0 (Zi ((((j.ab.g task.toNat).au).g i1).ah)) f_ k!)<|VV ix9<|CN 2<|MM (aI 3 1 (Zi ((((j.ab.g task.toNat).au).g i1).aB)) f_ k!)<|CC<|NN F1 (fun i=>(AV.slice i 0 1 1 false))<|PP (show di env qE #[188,188] z1 (AV.slice h7.nx 0 1 1 false)=some (z12,uX) from Qm)<|CC<|HH (aI 74 4 (AV.slice qj 0 talliesN talliesN talliesF) (j_ _ _ (bD _ _ o! (cE _ _ (ay _ _ cN)))) k!)<|HH (show AV.same 20 (AV.slice qj 0 talliesN talliesN talliesF) (AV.slice qj 0 talliesN talliesN talliesF)=true from jg 19 _ _ _ _ _)<|HH (aI 3 0 (Zi ((((j.ab.g task.toNat).au).g i1).ah)) (j_ _ _ f_) k!)<|HH (show AV.same 20 (Zi ((((j.ab.g task.toNat).au).g i1).ah)) (Zi ((((j.ab.g task.toNat).au).g i1).ah))=true from aK 19 _ _)<|HH (aI 3 1 (Zi ((((j.ab.g task.toNat).au).g i1).aB)) (j_ _ _ f_) k!)<|HH (show AV.same 20 (Zi ((((j.ab.g task.toNat).au).g i1).aB)) (Zi ((((j.ab.g task.toNat).au).g i1).aB))=true from aK 19 _ _)<|HH (show ∃o,qE.get h7.nx=some o∧aH.same o (aH.cells [(AV.func 111 [(AV.ptr qj (0+((((j.ab.g task.toNat).au).g i1).ah).toNat*324))] []),(Zi ((((j.ab.g task.toNat).au).g i1).aB))] 191 false)=true from ⟨_,xY,by simp [aH.same,ep,AV.same]⟩)<|VV u14<|CC<|ZZ) k!) _ k! (fun x=>uc task j ar from_ placedN startsN talliesN talliesF aj aL d_ gV sg Cd qj db ft nI jJ DX oJ HN mP qJ ry xz Ct Cu UF UG aiD aiE adE adF adG adH adI ct cN eh zx ace acf nH (i1+1) (px++([(⟨qj,0+((((j.ab.g task.toNat).au).g i1).ah).toNat*324,((((j.ab.g task.toNat).au).g i1).aB)⟩:Cl)])) z12 o! x uX uD Sw o! afa afN tZ)
   · have dQ:=of_decide_eq_false f1
     have u9:=dZ 3 false true i1 1 o!
     exact m6.round (by simp only[eR,f1,cond_true,cond_false]) (pk (d+3) _ _ hh _ h7 (dR<|BV f1 u9<|CC<|ZZ) k!) _ k! (fun x=>uc task j ar from_ placedN startsN talliesN talliesF aj aL d_ gV sg Cd qj db ft nI jJ DX oJ HN mP qJ ry xz Ct Cu UF UG aiD aiE adE adF adG adH adI ct cN eh zx ace acf nH (i1+1) px z1 o! x h7 eO (ay.trans du) o! (X3.has du) (R8 (D:=Cl) YR) tZ)
theorem wy {j:cG} {task:Int} {talliesB:Nat}:∀(k i:Nat) (v:List Cl),i+k=(j.ab.g task.toNat).au.length→eR talliesB j task k i v=v++bif decide (0<(j.ab.g task.toNat).takes) then ((j.ab.g task.toNat).au.drop i).map (fun u=>(⟨talliesB,0+u.ah.toNat*324,u.aB⟩:Cl)) else []
 | 0,i,v,h=>by
   rw[eR,List.drop_eq_nil_of_le o!]
   cases decide (0<(j.ab.g task.toNat).takes)<;>simp
 | k+1,i,v,h=>by
   rw[eR]
   cases c:decide (0<(j.ab.g task.toNat).takes) with
   | true=>rw[cond_true,wy k (i+1) _ o!,c,cond_true,cond_true,Ch (show i<(j.ab.g task.toNat).au.length by omega),List.map_cons,List.append_assoc];rfl
   | false=>rw[cond_false,wy k (i+1) _ o!,c,cond_false,cond_false]
theorem Oo {j:cG} {task:Int} {talliesB:Nat}:(eR talliesB j task (j.ab.g task.toNat).au.length 0 []).length=nq j task∧∀i,i<(eR talliesB j task (j.ab.g task.toNat).au.length 0 []).length→i<(j.ab.g task.toNat).au.length∧(eR talliesB j task (j.ab.g task.toNat).au.length 0 []).g i=⟨talliesB,0+(Int.toNat ((j.ab.g task.toNat).au.g i).ah)*324,((j.ab.g task.toNat).au.g i).aB⟩:=by
 rw[wy _ 0 _ o!,List.nil_append,List.drop_zero,nq]
 cases decide (0<(j.ab.g task.toNat).takes) with
 | true=>
   rw[cond_true,cond_true]
   refine ⟨List.length_map _,fun i hi=>?_⟩
   rw[List.length_map] at hi
   refine ⟨hi,?_⟩
   exact aiC hi
 | false=>exact ⟨rfl,fun i hi=>absurd hi (by simp)⟩
def b_ (j:cG) (aj:List Bool) (ar:List Int) (aL:List Tl) (task:Int) (from_:Int):Bool×List Bool×List Int×List Tl:=(bif (decide (100000<((fo (nq j task) (asks j aL task) (bE j ar task (((j.ab.g task.toNat).ax).length) 0 from_))+((j.ab.g task.toNat).takes)))) then (false,aj,ar,aL) else (true,(jN j aj ar aL task (fo (nq j task) (asks j aL task) (bE j ar task (((j.ab.g task.toNat).ax).length) 0 from_))).1,(jN j aj ar aL task (fo (nq j task) (asks j aL task) (bE j ar task (((j.ab.g task.toNat).ax).length) 0 from_))).2.1,(jN j aj ar aL task (fo (nq j task) (asks j aL task) (bE j ar task (((j.ab.g task.toNat).ax).length) 0 from_))).2.2))
theorem UH {d:Nat} {h hh:aw} {aP placedN aR startsN talliesB talliesN:Nat} {talliesF:Bool} (j:cG) (aj:List Bool) (ar:List Int) (aL:List Tl) (task:Int) (from_:Int) (bZ:aG.ok h j) (bQ:hh.get aP=some (aH.cells (bs aj) 4 false)) (qn:aj.length=placedN) (sj:h.get aP=none) (b5:hh.get aR=some (aH.cells (zs .i64 ar) 3 false)) (sm:ar.length=startsN) (sq:h.get aR=none) (eg:hh.get talliesB=some (aH.cells (kL aL) 127 false)) (I8:aL.length=talliesN) (I9:h.get talliesB=none) (nE:0≤task) (qI:task<(j.ab.length:Int)) (yS:aj.length=j.ab.length) (Ar:ar.length=j.ab.length) (DJ:∀q,q<(j.ab.g task.toNat).au.length→0≤((j.ab.g task.toNat).au.g q).ah∧((j.ab.g task.toNat).au.g q).ah<(aL.length:Int)) (Uh:∀a,a<(j.ab.g task.toNat).au.length→∀b,a<b→b<(j.ab.g task.toNat).au.length→((j.ab.g task.toNat).au.g a).ah≠((j.ab.g task.toNat).au.g b).ah) (pre6:∀i,i<j.ab.length→∀q,q<(j.ab.g i).ax.length→0≤(j.ab.g i).ax.g q∧(j.ab.g i).ax.g q<(j.ab.length:Int)) (Ui:∀i,i<j.ab.length→0≤(j.ab.g i).takes∧(j.ab.g i).takes≤100000) (abJ:∀i,i<ar.length→0≤ar.g i∧ar.g i+(j.ab.g i).takes≤100000) (ND:∀q,q<(j.ab.g task.toNat).au.length→Az 159 (aL.g (Int.toNat ((j.ab.g task.toNat).au.g q).ah))∧YM (aL.g (Int.toNat ((j.ab.g task.toNat).au.g q).ah))) (al4:0≤from_) (al5:from_≤100000) (al6:(j.ab.g task.toNat).au.length≤1000000) (Uj:aR≠aP) (ah3:talliesB≠aP) (ah4:talliesB≠aR) (ct:Tidy h) (aA:Tidy hh) (ay:Has h hh) (ij:h.nx≤hh.nx):∃hk,cU (d+4) (.fn 52) [(AV.agg [j.ao,j.ai,(AV.slice aP 0 placedN placedN false),(AV.slice aR 0 startsN startsN false),(AV.slice talliesB 0 talliesN talliesN talliesF)]),(Zi task),(Zi from_)] hh= .ret (AV.bool ((b_ j aj ar aL task from_).1)) hk∧Tidy hk∧hh.nx≤hk.nx∧Has h hk∧hk.get aP=some (aH.cells (bs ((b_ j aj ar aL task from_).2.1)) 4 false)∧((b_ j aj ar aL task from_).2.1).length=placedN∧hk.get aR=some (aH.cells (zs .i64 ((b_ j aj ar aL task from_).2.2.1)) 3 false)∧((b_ j aj ar aL task from_).2.2.1).length=startsN∧hk.get talliesB=some (aH.cells (kL ((b_ j aj ar aL task from_).2.2.2)) 127 false)∧((b_ j aj ar aL task from_).2.2.2).length=talliesN:=by
 have eT:=bZ.1.small
 have eU:=bZ.2.small
 have sr:=aA _ _ bQ
 have ss:=aA _ _ b5
 have I_:=aA _ _ eg
 obtain ⟨h1,dH,cP,kr,bk,bW⟩:=kh aA (aH.cells [j.ao,j.ai,(AV.slice aP 0 placedN placedN false),(AV.slice aR 0 startsN startsN false),(AV.slice talliesB 0 talliesN talliesN talliesF)] 76 false)
 have bB:Has h h1:=ay.trans bW
 obtain ⟨p3,q4,cF⟩:=bZ.1.elem (i:=task.toNat) o!
 have jL:bR env (some (.slice 39)) (some j.ao) (some (Zi task))=some (AV.ptr p3 q4):=by rw[show (task:Int)=((task.toNat:Nat):Int) by omega];exact cF
 have j9:aY env h1 39 (AV.ptr p3 q4)=some (AV.agg [(AV.str ((j.ab.g task.toNat).name)),(Zi ((j.ab.g task.toNat).takes)),((j.ab.g task.toNat).aO),((j.ab.g task.toNat).aS)]):=(bZ.1.has bB).load o! cF
 obtain ⟨h6,nU,kM,Ce,nV,cE⟩:=kh cP (aH.cells [(AV.str []),(Zi 0),AV.aD,AV.aD] 39 false)
 have jA:Has h h6:=bB.trans cE
 have PX:AV.scalar ((j.ab.g task.toNat).aO)=true:=((bZ.1.ok (i:=task.toNat) o!).2.1).scalar
 have XI:AV.scalar ((j.ab.g task.toNat).aS)=true:=((bZ.1.ok (i:=task.toNat) o!).2.2).scalar
 obtain ⟨h7,m8,eO,xA,f_,bD⟩:=qi (t:=39) (n:=4) (i:=h1.nx) (L:=[(AV.str ((j.ab.g task.toNat).name)),(Zi ((j.ab.g task.toNat).takes)),((j.ab.g task.toNat).aO),((j.ab.g task.toNat).aS)]) kM nV k! rfl rfl (by simp only[AV.cells,List.all_cons,List.all_nil,Bool.and_true,Bool.and_self,iE,gd,iF,iG,eP,lF,lG,lH,lI,lJ,iH,PX,XI])
 have du:Has h h7:=Has.ei jA bD ct o!
 have xK:cc (some (.slice 3)) (some ((j.ab.g task.toNat).aO))=some (Zn (((j.ab.g task.toNat).ax).length)):=((bZ.1.ok (i:=task.toNat) o!).2.1).len
 obtain ⟨jj,pL,Lx,eN,YS⟩:=Be (d:=d) (h:=h) task j placedN startsN talliesN talliesF aj ar aL from_ hh.nx h1.nx aP aR talliesB bZ.1 bZ.2 ((bZ.1.ok (i:=task.toNat) o!).2.1) ((bZ.1.ok (i:=task.toNat) o!).1) ((bZ.1.ok (i:=task.toNat) o!).2.2) bZ (bZ.1.ok (i:=task.toNat) o!) o! o! o! o! (by assumption) (by assumption) (by assumption) (by assumption) (by assumption) (by assumption) o! o! o! o! o! (((j.ab.g task.toNat).ax).length) 0 from_ o! (show (0≤from_∧from_≤100000) from zv) (fun k_=>(((AV.agg [j.ao,j.ai,(AV.slice aP 0 placedN placedN false),(AV.slice aR 0 startsN startsN false),(AV.slice talliesB 0 talliesN talliesN talliesF)])::(Zi task)::(Zi from_)::(Pt hh.nx)::AV.undef::AV.undef::(AV.bool false)::(Pt h1.nx)::AV.undef::AV.undef::AV.undef::AV.undef::AV.undef::AV.undef::(Pt hh.nx)::(Pt hh.nx)::j.ao::(Zi task)::(AV.ptr p3 q4)::(AV.agg [(AV.str ((j.ab.g task.toNat).name)),(Zi ((j.ab.g task.toNat).takes)),((j.ab.g task.toNat).aO),((j.ab.g task.toNat).aS)])::(AV.ptr h1.nx 2)::((j.ab.g task.toNat).aO)::(Zn (((j.ab.g task.toNat).ax).length))::(Zi 0)::lk 49):List AV).getD k_ AV.undef) h7 eO du (bD _ _ o! (cE _ _ bk)) f_ (bD _ _ o! (cE _ _ (bW _ _ bQ))) (bD _ _ o! (cE _ _ (bW _ _ b5))) (bD _ _ o! (cE _ _ (bW _ _ eg)))
 have qm:=eN.y
 have XH:h7.nx≤pL.nx:=eN.n
 have jM:Has h pL:=du.trans eN.a
 have PY:cc (some (.slice 80)) (some ((j.ab.g task.toNat).aS))=some (Zn (((j.ab.g task.toNat).au).length)):=((bZ.1.ok (i:=task.toNat) o!).2.2).len
 obtain ⟨ak7,akr,I3,KV,mK,ak8,acg,ak9⟩:=uc (d:=d) (h:=pL) task j ar from_ placedN startsN talliesN talliesF aj aL hh.nx h1.nx aP aR talliesB (bZ.1.has jM) (bZ.2.has jM) (((bZ.1.ok (i:=task.toNat) o!).2.2).has jM) ((bZ.1.ok (i:=task.toNat) o!).1) (((bZ.1.ok (i:=task.toNat) o!).2.1).has jM) (aG.mono jM bZ) (aG.mono jM (bZ.1.ok (i:=task.toNat) o!)) o! o! o! o! (by assumption) (by assumption) (by assumption) (by assumption) (by assumption) (by assumption) o! o! o! o! o! qm (eN.a _ _ (bD _ _ o! (cE _ _ bk))) (eN.a _ _ f_) (eN.a _ _ (bD _ _ o! (cE _ _ (bW _ _ bQ)))) (eN.a _ _ (bD _ _ o! (cE _ _ (bW _ _ b5)))) (eN.a _ _ (bD _ _ o! (cE _ _ (bW _ _ eg)))) (((j.ab.g task.toNat).au).length) 0 ([]) AV.aD o! (fun k_=>(((jj 0)::(Zi task)::(Zi (bE j ar task (((j.ab.g task.toNat).ax).length) 0 from_))::(Pt hh.nx)::rx jj 4 3 ((Pt h1.nx)::(jj 8)::(jj 9)::AV.aD::rx jj 11 10 (((j.ab.g task.toNat).aO)::(Zn (((j.ab.g task.toNat).ax).length))::rx jj 23 13 ((AV.ptr h1.nx 3)::((j.ab.g task.toNat).aS)::(Zn (((j.ab.g task.toNat).au).length))::(Zi 0)::rx jj 40 33 [])))):List AV).getD k_ AV.undef) pL qm (Has.refl _) (Nat.le_refl _) (.inl ⟨.inl rfl,rfl⟩) (fun y hy=>by cases hy) (Nat.zero_le _)
 have ajm:(eR talliesB j task (((j.ab.g task.toNat).au).length) 0 ([])).length≤(((j.ab.g task.toNat).au).length):=ak9
 have ach:aM I3 ak7 (eR talliesB j task (((j.ab.g task.toNat).au).length) 0 ([])):=nQ.rows ak8 o! acg
 have uE:=mK.y
 have ahQ:pL.nx≤I3.nx:=mK.n
 have Dg:Has h I3:=jM.trans mK.a
 have agE:Has pL I3:=mK.a
 have kt_:=Ui task.toNat o!
 have wz:=Oo (j:=j) (task:=task) (talliesB:=talliesB)
 have YT:∀i,i<(eR talliesB j task (((j.ab.g task.toNat).au).length) 0 ([])).length→∀f:Int,0≤f→f≤1000000→(asks j aL task) i f≤1000000:=fun i hi f _ hf=>YN (ND i (wz.2 i hi).1).2 hf
 have k19:=Ds (d:=d+2) (bE j ar task (((j.ab.g task.toNat).ax).length) 0 from_) ((j.ab.g task.toNat).takes) (eR talliesB j task (((j.ab.g task.toNat).au).length) 0 ([])) (asks j aL task) ach (fun i hi f hh _ _ yy aa=>by rw[(wz.2 i hi).2];exact Um (fit (aL.g (Int.toNat ((j.ab.g task.toNat).au.g i).ah)).l) talliesB (0+(Int.toNat ((j.ab.g task.toNat).au.g i).ah)*324) f (j.ab.g task.toNat).takes ((j.ab.g task.toNat).au.g i).aB (Sc (aa _ _ (mK.a _ _ (eN.a _ _ (bD _ _ o! (cE _ _ (bW _ _ eg)))))) (by have u_:=DJ i (wz.2 i hi).1;omega)) (by rw[(FR (by have u_:=DJ i (wz.2 i hi).1;omega)).2];omega) (xn _) (by have t_:=(ND i (wz.2 i hi).1).1.1;omega) (by have t_:=(ND i (wz.2 i hi).1).1.2.1;omega) yy) YT o! o! uE
 rw[adC,wz.1] at k19
 have afO:=adD (n:=(eR talliesB j task (((j.ab.g task.toNat).au).length) 0 ([])).length) (f:=(bE j ar task (((j.ab.g task.toNat).ax).length) 0 from_)) YT o! o!
 rw[wz.1] at afO
 have w20:IntKind.i64.wrap ((fo (nq j task) (asks j aL task) (bE j ar task (((j.ab.g task.toNat).ax).length) 0 from_))+((j.ab.g task.toNat).takes))=(fo (nq j task) (asks j aL task) (bE j ar task (((j.ab.g task.toNat).ax).length) 0 from_))+((j.ab.g task.toNat).takes):=wrap_i64 o! o!
 have hI:=fun {al ps} (k:Pk al _ ps)=>(NN dH (fun i=>(Pt i))<|CN 3<|MM (aI 22 0 j.ao bk k!)<|CC<|VV jL<|MM j9<|NN nU (fun i=>(Pt i))<|SS m8<|CC<|MM (aI 26 2 ((j.ab.g task.toNat).aO) f_ k!)<|VV xK<|CC<|LL Lx<|CN 2<|MM (aI 37 3 ((j.ab.g task.toNat).aS) (eN.a _ _ f_) k!)<|VV PY<|CC<|LL KV<|CN 2<|MM (aI 3 1 (Zi ((j.ab.g task.toNat).takes)) (mK.a _ _ (eN.a _ _ f_)) k!)<|CC<|EE k19<|CN 3<|MM (aI 3 1 (Zi ((j.ab.g task.toNat).takes)) (mK.a _ _ (eN.a _ _ f_)) k!)<|VV (rn 3 false false w20)<|VV (dw 3 false true .i64 ((fo (nq j task) (asks j aL task) (bE j ar task (((j.ab.g task.toNat).ax).length) 0 from_))+((j.ab.g task.toNat).takes)) 100000)<|k:Pk _ [] ps)
 rcases Bool.eq_false_or_eq_true (decide (100000<((fo (nq j task) (asks j aL task) (bE j ar task (((j.ab.g task.toNat).ax).length) 0 from_))+((j.ab.g task.toNat).takes)))) with f0 | f0
 · have dx:=of_decide_eq_true f0
   have e:b_ j aj ar aL task from_=(false,aj,ar,aL):=by simp only[b_,f0,cond_true,cond_false]
   rw[e]
   exact fU rfl (aZ Tryz.func52 Jr rfl (.inr rfl) (pk (d+3) _ _ hh _ I3 (hI<|BC f0<|ZZ) k!) k!) aA uE o! ⟨Dg,(mK.a _ _ (eN.a _ _ (bD _ _ o! (cE _ _ (bW _ _ bQ))))),l!,(mK.a _ _ (eN.a _ _ (bD _ _ o! (cE _ _ (bW _ _ b5))))),l!,(mK.a _ _ (eN.a _ _ (bD _ _ o! (cE _ _ (bW _ _ eg))))),l!⟩ (fun q=>⟨ay,cK q bQ (mK.a _ _ (eN.a _ _ (bD _ _ o! (cE _ _ (bW _ _ bQ))))),l!,cK q b5 (mK.a _ _ (eN.a _ _ (bD _ _ o! (cE _ _ (bW _ _ b5))))),l!,cK q eg (mK.a _ _ (eN.a _ _ (bD _ _ o! (cE _ _ (bW _ _ eg))))),l!⟩)
 · have dx:=of_decide_eq_false f0
   obtain ⟨ala,afP,ajn,aci,acj,Ly⟩:=dO uE (mK.a _ _ (eN.a _ _ (bD _ _ o! (cE _ _ (bW _ _ bQ)))))
   have afQ:Has h ala:=bM Dg zw Ly
   obtain ⟨aiF,afR,ajo,ack,acm,Lz⟩:=dO afP ((Ly _ o!).trans (mK.a _ _ (eN.a _ _ (bD _ _ o! (cE _ _ (bW _ _ b5))))))
   have UI:aiF.get aP=none:=(Lz _ o!).trans aci
   have afS:Has h aiF:=bM afQ zw Lz
   obtain ⟨acn,afT,ajp,aco,acp,LA⟩:=dO afR ((Lz _ o!).trans ((Ly _ o!).trans (mK.a _ _ (eN.a _ _ (bD _ _ o! (cE _ _ (bW _ _ eg)))))))
   have UJ:acn.get aP=none:=(LA _ o!).trans UI
   have UK:acn.get aR=none:=(LA _ o!).trans ack
   have YU:Has h acn:=bM afS zw LA
   obtain ⟨h25,aiG,aiH,al7,afU,SU,ajq,SV,ajr,SW,ajs⟩:=abI (d:=d) (h:=acn) (placedN:=placedN) (startsN:=startsN) (talliesN:=talliesN) (talliesF:=talliesF) j aj ar aL task (fo (nq j task) (asks j aL task) (bE j ar task (((j.ab.g task.toNat).ax).length) 0 from_)) (aG.mono YU bZ) (mK.a _ _ (eN.a _ _ (bD _ _ o! (cE _ _ (bW _ _ bQ))))) l! UJ (mK.a _ _ (eN.a _ _ (bD _ _ o! (cE _ _ (bW _ _ b5))))) l! UK (mK.a _ _ (eN.a _ _ (bD _ _ o! (cE _ _ (bW _ _ eg))))) l! aco eE eE eE eE eE eE eE eE eE eE o! o! o! afT uE (acp.trans (acm.trans acj)) o!
   have alb:=XV j aj ar aL task (fo (nq j task) (asks j aL task) (bE j ar task (((j.ab.g task.toNat).ax).length) 0 from_)) eE eE eE eE
   have aiI:Has h h25:=(YU.trans afU)
   have e:b_ j aj ar aL task from_=(true,(jN j aj ar aL task (fo (nq j task) (asks j aL task) (bE j ar task (((j.ab.g task.toNat).ax).length) 0 from_))).1,(jN j aj ar aL task (fo (nq j task) (asks j aL task) (bE j ar task (((j.ab.g task.toNat).ax).length) 0 from_))).2.1,(jN j aj ar aL task (fo (nq j task) (asks j aL task) (bE j ar task (((j.ab.g task.toNat).ax).length) 0 from_))).2.2):=by simp only[b_,f0,cond_true,cond_false]
   rw[e]
   exact fU rfl (aZ Tryz.func52 Jr rfl (.inr rfl) (pk (d+3) _ _ hh _ h25 (hI<|BM f0 (aI 76 0 (AV.agg [j.ao,j.ai,(AV.slice aP 0 placedN placedN false),(AV.slice aR 0 startsN startsN false),(AV.slice talliesB 0 talliesN talliesN talliesF)]) (mK.a _ _ (eN.a _ _ (bD _ _ o! (cE _ _ bk)))) k!)<|CN 2<|EE aiG<|CC<|ZZ) k!) k!) aA aiH o! ⟨aiI,SU,l!,SV,l!,SW,l!⟩ (fun q=>⟨ay,cK q bQ SU,l!,cK q b5 SV,l!,cK q eg SW,l!⟩)
theorem bu {p:Prop} (h:p:=by first | omega | assumption | (simp only[List.length_set,List.length_replicate,List.length_append,List.length_cons,List.length_nil,List.nil_append]<;>omega) | (rw[List.length_take];omega)):p:=h
noncomputable def ml:Code:=(Tryz.f58.body).getD .skip
theorem Bf:Tryz.f58.body=some ml:=by kernel_rfl
noncomputable def GW:Code:=(bw ml).getD 0 .skip
noncomputable def GX:Code:=(bw ml).getD 1 .skip
noncomputable def GY:Code:=(bw ml).getD 2 .skip
def bF (ar:List Int) (j:cG) (aj:List Bool) (from_:Int) (task:Int):Nat→Nat→Int→Int
 | 0,_,fh=>fh
 | cS+1,i0,fh=>(bif (aj.g i0) then (bif (decide (from_<(IntKind.i64.wrap ((ar.g i0)+((j.ab.g i0).takes))))) then (bif (decide (fh<0)) then (bif (cC j ar aj task (IntKind.i64.wrap ((ar.g i0)+((j.ab.g i0).takes)))) then bF ar j aj from_ task cS (i0+1) (IntKind.i64.wrap ((ar.g i0)+((j.ab.g i0).takes))) else bF ar j aj from_ task cS (i0+1) fh) else (bif (decide ((IntKind.i64.wrap ((ar.g i0)+((j.ab.g i0).takes)))<fh)) then (bif (cC j ar aj task (IntKind.i64.wrap ((ar.g i0)+((j.ab.g i0).takes)))) then bF ar j aj from_ task cS (i0+1) (IntKind.i64.wrap ((ar.g i0)+((j.ab.g i0).takes))) else bF ar j aj from_ task cS (i0+1) fh) else bF ar j aj from_ task cS (i0+1) fh)) else bF ar j aj from_ task cS (i0+1) fh) else bF ar j aj from_ task cS (i0+1) fh)
theorem fX {d:Nat} {h:aw} (aX:AV) (aU:AV) (task:Int) (from_:Int) (j:cG) (ar:List Int) (aj:List Bool) (a_:Nat) (bb:bS h .i64 3 aX ar) (cf:l7 h 4 aU aj) (dc:aM h j.ao j.ab) (iU:aM h j.ai j.af) (fW:aG.ok h j) (fq:aj.length=j.ab.length) (hH:ar.length=j.ab.length) (ly:0≤task) (mw:task<(j.ab.length:Int)) (l8:∀q,q<(j.ab.g task.toNat).ax.length→0≤(j.ab.g task.toNat).ax.g q∧(j.ab.g task.toNat).ax.g q<(j.ab.length:Int)) (mO:∀q,q<(j.ab.g task.toNat).au.length→0≤((j.ab.g task.toNat).au.g q).ah∧((j.ab.g task.toNat).au.g q).ah<(j.af.length:Int)):∀(k_ i_:Nat) (fh:Int) (_:i_+k_=j.ab.length) (x:Nat→AV) (hh:aw) (aA:Tidy hh) (ay:Has h hh) (bh:hh.get a_=some (aH.cells [j.ao,j.ai] 25 false)),bt (cU (d+3)) GW ⟨((x 0)::aX::aU::(Zi task)::(Zi from_)::(Pt a_)::rx x 6 5 ((Zi fh)::(Zn i_)::rx x 13 107 [])),hh,[],.no⟩ (.exit 0) hh (fun r y=>((y 0)::aX::aU::(Zi task)::(Zi from_)::(Pt a_)::rx y 6 5 ((Zi r)::rx y 12 108 []))) (fun r=>True) (bF ar j aj from_ task k_ i_ fh)
 | 0,i0,fh,gq,x,hh,aA,ay,bh=>by
   have cr:=bb.small
   have eQ:=cf.small
   have jD:=dc.small
   have tW:=iU.small
   have ji:=aA _ _ bh
   have gL:cc (some (.slice 39)) (some j.ao)=some (Zn j.ab.length):=(dc.has ay).len
   have q2:(decide (((i0:Nat):Int)<((j.ab.length:Nat):Int)))=false:=d!
   exact bt.out fh rfl (pk (d+3) _ _ hh _ hh (CN 2<|MM (aI 22 0 j.ao bh k!)<|VV gL<|VV (bO 3 false false .i64 ((i0:Nat):Int) ((j.ab.length:Nat):Int))<|BB q2<|ZZ) k!) (bp.refl aA) trivial k!
 | cS+1,i0,fh,gq,x,hh,aA,ay,bh=>by
   have cr:=bb.small
   have eQ:=cf.small
   have jD:=dc.small
   have tW:=iU.small
   have ji:=aA _ _ bh
   have gL:cc (some (.slice 39)) (some j.ao)=some (Zn j.ab.length):=(dc.has ay).len
   have q2:(decide (((i0:Nat):Int)<((j.ab.length:Nat):Int)))=true:=d!
   obtain ⟨p4,q5,jE,_⟩:=(bb.has ay).elem (i:=i0) o!
   have vP:bR env (some (.slice 3)) (some aX) (some (Zn i0))=some (AV.ptr p4 q5):=jE
   have rC:aY env hh 3 (AV.ptr p4 q5)=some (Zi (ar.g i0)):=(bb.has ay).load o! jE
   obtain ⟨p8,q9,sx⟩:=(dc.has ay).elem (i:=i0) o!
   have Qb:bR env (some (.slice 39)) (some j.ao) (some (Zn i0))=some (AV.ptr p8 q9):=sx
   have vY:aY env hh 3 (AV.ptr p8 (q9+1))=some (Zi ((j.ab.g i0).takes)):=(dc.has ay).part (t:=3) (j:=1) o! sx k! rfl
   have c11:AV.same 20 j.ao j.ao=true:=(dc.has ay).same 19
   obtain ⟨p13,q14,N_,_⟩:=(cf.has ay).elem (i:=i0) o!
   have P5:bR env (some (.slice 4)) (some aU) (some (Zn i0))=some (AV.ptr p13 q14):=N_
   have abZ:aY env hh 4 (AV.ptr p13 q14)=some (AV.bool (aj.g i0)):=(cf.has ay).load o! N_
   have dR:=fun {al ps} (k:Pk al _ ps)=>(CN 2<|MM (aI 22 0 j.ao bh k!)<|VV gL<|VV (bO 3 false false .i64 ((i0:Nat):Int) ((j.ab.length:Nat):Int))<|BB q2<|CN 2<|VV vP<|MM rC<|CC<|MM (aI 22 0 j.ao bh k!)<|CC<|VV Qb<|CC<|MM vY<|CN 2<|HH rC<|HH (show AV.same 20 (Zi (ar.g i0)) (Zi (ar.g i0))=true from aK 19 _ _)<|HH (aI 22 0 j.ao bh k!)<|HH c11<|HH vY<|HH (show AV.same 20 (Zi ((j.ab.g i0).takes)) (Zi ((j.ab.g i0).takes))=true from aK 19 _ _)<|CN 2<|VV P5<|MM abZ<|CC<|k:Pk _ [] ps)
   rcases Bool.eq_false_or_eq_true (aj.g i0) with f1 | f1
   · have hI:=fun {al ps} (k:Pk al _ ps)=>(dR<|BC f1<|BC f1<|BV f1 (dw 3 false false .i64 (IntKind.i64.wrap ((ar.g i0)+((j.ab.g i0).takes))) from_)<|VV (pe (decide (from_<(IntKind.i64.wrap ((ar.g i0)+((j.ab.g i0).takes))))) false f1)<|CC<|k:Pk _ [] ps)
     rcases Bool.eq_false_or_eq_true (decide (from_<(IntKind.i64.wrap ((ar.g i0)+((j.ab.g i0).takes))))) with f2 | f2
     · have jZ:=of_decide_eq_true f2
       have mH:=fun {al ps} (k:Pk al _ ps)=>(hI<|BC f2<|BV f2 (bO 3 false true .i64 fh 0)<|BC f2<|k:Pk _ [] ps)
       rcases Bool.eq_false_or_eq_true (decide (fh<0)) with f3 | f3
       · have lV:=of_decide_eq_true f3
         have k19:=wq (d:=d) j ar aj task (IntKind.i64.wrap ((ar.g i0)+((j.ab.g i0).takes))) (aG.mono ay fW) (bb.has ay) (cf.has ay) bu bu bu bu bu bu aA
         have vc:=fun {al ps} (k:Pk al _ ps)=>(mH<|BB f3<|BB f3<|BB f3<|BV f2 (xV true f3)<|VV (pe true false f2)<|CC<|TT<|MM (aI 25 0 (AV.agg [j.ao,j.ai]) bh k!)<|TT<|CC<|TT<|CC<|TT<|CC<|TT<|CC<|TT<|EE k19<|CC<|k:Pk _ [] ps)
         rcases Bool.eq_false_or_eq_true (cC j ar aj task (IntKind.i64.wrap ((ar.g i0)+((j.ab.g i0).takes)))) with f4 | f4
         · have u21:=dZ 3 false true i0 1 o!
           exact bt.round (by simp only[bF,f1,f2,f3,f4,cond_true,cond_false]) (pk (d+3) _ _ hh _ hh (vc<|BB f4<|CN 3<|VV u21<|CC<|ZZ) k!) (bp.refl aA) _ k! (fun x=>fX aX aU task from_ j ar aj a_ bb cf dc iU fW fq hH ly mw l8 mO cS (i0+1) (IntKind.i64.wrap ((ar.g i0)+((j.ab.g i0).takes))) o! x hh aA ay bh)
         · have u21:=dZ 3 false true i0 1 o!
           exact bt.round (by simp only[bF,f1,f2,f3,f4,cond_true,cond_false]) (pk (d+3) _ _ hh _ hh (vc<|BC f4<|VV u21<|CC<|ZZ) k!) (bp.refl aA) _ k! (fun x=>fX aX aU task from_ j ar aj a_ bb cf dc iU fW fq hH ly mw l8 mO cS (i0+1) fh o! x hh aA ay bh)
       · have lV:=of_decide_eq_false f3
         have zI:=fun {al ps} (k:Pk al _ ps)=>(mH<|BC f3<|BC f3<|BV f3 (bO 3 false false .i64 (IntKind.i64.wrap ((ar.g i0)+((j.ab.g i0).takes))) fh)<|BV f2 (b8 (a:=some (AV.bool true)) (b:=some (AV.bool (decide ((IntKind.i64.wrap ((ar.g i0)+((j.ab.g i0).takes)))<fh)))) f3)<|VV (pe (decide ((IntKind.i64.wrap ((ar.g i0)+((j.ab.g i0).takes)))<fh)) false f2)<|CC<|k:Pk _ [] ps)
         rcases Bool.eq_false_or_eq_true (decide ((IntKind.i64.wrap ((ar.g i0)+((j.ab.g i0).takes)))<fh)) with f4 | f4
         · have rE:=of_decide_eq_true f4
           have k20:=wq (d:=d) j ar aj task (IntKind.i64.wrap ((ar.g i0)+((j.ab.g i0).takes))) (aG.mono ay fW) (bb.has ay) (cf.has ay) bu bu bu bu bu bu aA
           have QF:=fun {al ps} (k:Pk al _ ps)=>(zI<|BM f4 (aI 25 0 (AV.agg [j.ao,j.ai]) bh k!)<|BC f4<|BC f4<|BC f4<|BC f4<|BB f4<|EE k20<|VV (pe (cC j ar aj task (IntKind.i64.wrap ((ar.g i0)+((j.ab.g i0).takes)))) false f4)<|k:Pk _ [] ps)
           rcases Bool.eq_false_or_eq_true (cC j ar aj task (IntKind.i64.wrap ((ar.g i0)+((j.ab.g i0).takes)))) with f5 | f5
           · have Yr:=dZ 3 false true i0 1 o!
             exact bt.round (by simp only[bF,f1,f2,f3,f4,f5,cond_true,cond_false]) (pk (d+3) _ _ hh _ hh (QF<|BB f5<|CN 3<|VV Yr<|CC<|ZZ) k!) (bp.refl aA) _ k! (fun x=>fX aX aU task from_ j ar aj a_ bb cf dc iU fW fq hH ly mw l8 mO cS (i0+1) (IntKind.i64.wrap ((ar.g i0)+((j.ab.g i0).takes))) o! x hh aA ay bh)
           · have Yr:=dZ 3 false true i0 1 o!
             exact bt.round (by simp only[bF,f1,f2,f3,f4,f5,cond_true,cond_false]) (pk (d+3) _ _ hh _ hh (QF<|BC f5<|VV Yr<|CC<|ZZ) k!) (bp.refl aA) _ k! (fun x=>fX aX aU task from_ j ar aj a_ bb cf dc iU fW fq hH ly mw l8 mO cS (i0+1) fh o! x hh aA ay bh)
         · have rE:=of_decide_eq_false f4
           have u20:=dZ 3 false true i0 1 o!
           exact bt.round (by simp only[bF,f1,f2,f3,f4,cond_true,cond_false]) (pk (d+3) _ _ hh _ hh (zI<|BB f4<|BB f4<|BB f4<|BB f4<|BB f4<|BV f4 (sS false f4)<|FF<|CC<|VV u20<|CC<|ZZ) k!) (bp.refl aA) _ k! (fun x=>fX aX aU task from_ j ar aj a_ bb cf dc iU fW fq hH ly mw l8 mO cS (i0+1) fh o! x hh aA ay bh)
     · have jZ:=of_decide_eq_false f2
       have u18:=dZ 3 false true i0 1 o!
       exact bt.round (by simp only[bF,f1,f2,cond_true,cond_false]) (pk (d+3) _ _ hh _ hh (hI<|BB f2<|BB f2<|BB f2<|BV f2 (sS false f2)<|CC<|FF<|FF<|FF<|FF<|FF<|FF<|CC<|FF<|CC<|VV u18<|CC<|ZZ) k!) (bp.refl aA) _ k! (fun x=>fX aX aU task from_ j ar aj a_ bb cf dc iU fW fq hH ly mw l8 mO cS (i0+1) fh o! x hh aA ay bh)
   · have u17:=dZ 3 false true i0 1 o!
     exact bt.round (by simp only[bF,f1,cond_true,cond_false]) (pk (d+3) _ _ hh _ hh (dR<|BB f1<|BB f1<|BV f1 (sS false f1)<|CC<|FF<|FF<|FF<|FF<|CN 2<|FF<|FF<|FF<|FF<|FF<|FF<|CC<|FF<|CC<|VV u17<|CC<|ZZ) k!) (bp.refl aA) _ k! (fun x=>fX aX aU task from_ j ar aj a_ bb cf dc iU fW fq hH ly mw l8 mO cS (i0+1) fh o! x hh aA ay bh)
def ca (j:cG) (i1:Nat) (from_:Int) (ar:List Int) (aj:List Bool) (task:Int):Nat→Nat→Int→Int
 | 0,_,kG=>kG
 | Cw+1,i2,kG=>(bif (decide (from_<(IntKind.i64.wrap (((((j.af.g i1).off).g i2).aN)+1)))) then (bif (decide (kG<0)) then (bif (cC j ar aj task (IntKind.i64.wrap (((((j.af.g i1).off).g i2).aN)+1))) then ca j i1 from_ ar aj task Cw (i2+1) (IntKind.i64.wrap (((((j.af.g i1).off).g i2).aN)+1)) else ca j i1 from_ ar aj task Cw (i2+1) kG) else (bif (decide ((IntKind.i64.wrap (((((j.af.g i1).off).g i2).aN)+1))<kG)) then (bif (cC j ar aj task (IntKind.i64.wrap (((((j.af.g i1).off).g i2).aN)+1))) then ca j i1 from_ ar aj task Cw (i2+1) (IntKind.i64.wrap (((((j.af.g i1).off).g i2).aN)+1)) else ca j i1 from_ ar aj task Cw (i2+1) kG) else ca j i1 from_ ar aj task Cw (i2+1) kG)) else ca j i1 from_ ar aj task Cw (i2+1) kG)
theorem gZ {d:Nat} {h:aw} (aX:AV) (aU:AV) (task:Int) (from_:Int) (i1:Nat) (j:cG) (ar:List Int) (aj:List Bool) (kZ:Nat) (ky:bS h .i64 3 aX ar) (mQ:l7 h 4 aU aj) (xI:aM h j.ao j.ab) (np:aM h j.ai j.af) (va:aG.ok h j) (A5:i1<j.af.length) (Lh:aj.length=j.ab.length) (Li:ar.length=j.ab.length) (Lj:0≤task) (Lk:task<(j.ab.length:Int)) (Ll:∀q,q<(j.ab.g task.toNat).ax.length→0≤(j.ab.g task.toNat).ax.g q∧(j.ab.g task.toNat).ax.g q<(j.ab.length:Int)) (Lm:∀q,q<(j.ab.g task.toNat).au.length→0≤((j.ab.g task.toNat).au.g q).ah∧((j.ab.g task.toNat).au.g q).ah<(j.af.length:Int)):∀(k_ i_:Nat) (kG:Int) (_:i_+k_=(((j.af.g i1).off).length)) (x:Nat→AV) (hh:aw) (aA:Tidy hh) (ay:Has h hh) (iz:hh.get kZ=some (aH.cells [j.ao,j.ai] 25 false)),bt (cU (d+3)) GY ⟨((x 0)::aX::aU::(Zi task)::(Zi from_)::(Pt kZ)::rx x 6 5 ((Zi kG)::(x 12)::(x 13)::(Zn i1)::(Zn i_)::rx x 16 104 [])),hh,[],.no⟩ (.exit 4) hh (fun r y=>((y 0)::aX::aU::(Zi task)::(Zi from_)::(Pt kZ)::rx y 6 5 ((Zi r)::(y 12)::(y 13)::(Zn i1)::rx y 15 105 []))) (fun r=>True) (ca j i1 from_ ar aj task k_ i_ kG)
 | 0,i2,kG,gq,x,hh,aA,ay,iz=>by
   have zr:=ky.small
   have zt:=mQ.small
   have QC:=xI.small
   have GJ:=np.small
   have QD:=aA _ _ iz
   obtain ⟨p2,q3,NW⟩:=(np.has ay).elem (i:=i1) o!
   have ix1:bR env (some (.slice 36)) (some j.ai) (some (Zn i1))=some (AV.ptr p2 q3):=NW
   have ZW:aY env hh 34 (AV.ptr p2 (q3+2))=some ((j.af.g i1).dp):=(np.has ay).part (t:=34) (j:=2) o! NW k! rfl
   have Z_:cc (some (.slice 70)) (some ((j.af.g i1).dp))=some (Zn (((j.af.g i1).off).length)):=(((np.has ay).ok (i:=i1) o!).2).len
   have q6:(decide (((i2:Nat):Int)<((((j.af.g i1).off).length:Nat):Int)))=false:=d!
   exact bt.out kG rfl (pk (d+3) _ _ hh _ hh (CN 2<|MM (aI 23 1 j.ai iz k!)<|CC<|VV ix1<|CC<|MM ZW<|VV Z_<|VV (bO 3 false false .i64 ((i2:Nat):Int) ((((j.af.g i1).off).length:Nat):Int))<|BB q6<|ZZ) k!) (bp.refl aA) trivial k!
 | Cw+1,i2,kG,gq,x,hh,aA,ay,iz=>by
   have zr:=ky.small
   have zt:=mQ.small
   have QC:=xI.small
   have GJ:=np.small
   have QD:=aA _ _ iz
   have so:=(np.ok (i:=i1) o!).2.small
   obtain ⟨p2,q3,NW⟩:=(np.has ay).elem (i:=i1) o!
   have ix1:bR env (some (.slice 36)) (some j.ai) (some (Zn i1))=some (AV.ptr p2 q3):=NW
   have ZW:aY env hh 34 (AV.ptr p2 (q3+2))=some ((j.af.g i1).dp):=(np.has ay).part (t:=34) (j:=2) o! NW k! rfl
   have Z_:cc (some (.slice 70)) (some ((j.af.g i1).dp))=some (Zn (((j.af.g i1).off).length)):=(((np.has ay).ok (i:=i1) o!).2).len
   have q6:(decide (((i2:Nat):Int)<((((j.af.g i1).off).length:Nat):Int)))=true:=d!
   obtain ⟨p8,q9,sx⟩:=(np.has ay).elem (i:=i1) o!
   have Qb:bR env (some (.slice 36)) (some j.ai) (some (Zn i1))=some (AV.ptr p8 q9):=sx
   have vY:aY env hh 34 (AV.ptr p8 (q9+2))=some ((j.af.g i1).dp):=(np.has ay).part (t:=34) (j:=2) o! sx k! rfl
   obtain ⟨X7,X8,v8⟩:=(((np.has ay).ok (i:=i1) o!).2).elem (i:=i2) o!
   have Lb:bR env (some (.slice 70)) (some ((j.af.g i1).dp)) (some (Zn i2))=some (AV.ptr X7 X8):=v8
   have Lc:aY env hh 3 (AV.ptr X7 (X8+1))=some (Zi ((((j.af.g i1).off).g i2).aN)):=(((np.has ay).ok (i:=i1) o!).2).part (t:=3) (j:=1) o! v8 k! rfl
   have Oa:=fun {al ps} (k:Pk al _ ps)=>(CN 2<|MM (aI 23 1 j.ai iz k!)<|CC<|VV ix1<|CC<|MM ZW<|VV Z_<|VV (bO 3 false false .i64 ((i2:Nat):Int) ((((j.af.g i1).off).length:Nat):Int))<|BC q6<|MM (aI 23 1 j.ai iz k!)<|CC<|VV Qb<|CC<|MM vY<|CC<|VV Lb<|CC<|MM Lc<|CN 4<|VV (dw 3 false false .i64 (IntKind.i64.wrap (((((j.af.g i1).off).g i2).aN)+1)) from_)<|CC<|k:Pk _ [] ps)
   rcases Bool.eq_false_or_eq_true (decide (from_<(IntKind.i64.wrap (((((j.af.g i1).off).g i2).aN)+1)))) with f1 | f1
   · have dQ:=of_decide_eq_true f1
     have Vf:=fun {al ps} (k:Pk al _ ps)=>(Oa<|BC f1<|BV f1 (bO 3 false true .i64 kG 0)<|BC f1<|k:Pk _ [] ps)
     rcases Bool.eq_false_or_eq_true (decide (kG<0)) with f2 | f2
     · have jZ:=of_decide_eq_true f2
       have k17:=wq (d:=d) j ar aj task (IntKind.i64.wrap (((((j.af.g i1).off).g i2).aN)+1)) (aG.mono ay va) (ky.has ay) (mQ.has ay) bu bu bu bu bu bu aA
       have Yv:=fun {al ps} (k:Pk al _ ps)=>(Vf<|BB f2<|BB f2<|BB f2<|BV f1 (xV true f2)<|VV (pe true false f1)<|CC<|TT<|MM (aI 25 0 (AV.agg [j.ao,j.ai]) iz k!)<|TT<|CC<|TT<|CC<|TT<|CC<|TT<|CC<|TT<|EE k17<|CC<|k:Pk _ [] ps)
       rcases Bool.eq_false_or_eq_true (cC j ar aj task (IntKind.i64.wrap (((((j.af.g i1).off).g i2).aN)+1))) with f3 | f3
       · have u19:=dZ 3 false true i2 1 o!
         exact bt.round (by simp only[ca,f1,f2,f3,cond_true,cond_false]) (pk (d+3) _ _ hh _ hh (Yv<|BB f3<|CN 3<|VV u19<|CC<|ZZ) k!) (bp.refl aA) _ k! (fun x=>gZ aX aU task from_ i1 j ar aj kZ ky mQ xI np va A5 Lh Li Lj Lk Ll Lm Cw (i2+1) (IntKind.i64.wrap (((((j.af.g i1).off).g i2).aN)+1)) o! x hh aA ay iz)
       · have u19:=dZ 3 false true i2 1 o!
         exact bt.round (by simp only[ca,f1,f2,f3,cond_true,cond_false]) (pk (d+3) _ _ hh _ hh (Yv<|BC f3<|VV u19<|CC<|ZZ) k!) (bp.refl aA) _ k! (fun x=>gZ aX aU task from_ i1 j ar aj kZ ky mQ xI np va A5 Lh Li Lj Lk Ll Lm Cw (i2+1) kG o! x hh aA ay iz)
     · have jZ:=of_decide_eq_false f2
       have DY:=fun {al ps} (k:Pk al _ ps)=>(Vf<|BC f2<|BC f2<|BV f2 (bO 3 false false .i64 (IntKind.i64.wrap (((((j.af.g i1).off).g i2).aN)+1)) kG)<|BV f1 (b8 (a:=some (AV.bool true)) (b:=some (AV.bool (decide ((IntKind.i64.wrap (((((j.af.g i1).off).g i2).aN)+1))<kG)))) f2)<|VV (pe (decide ((IntKind.i64.wrap (((((j.af.g i1).off).g i2).aN)+1))<kG)) false f1)<|CC<|k:Pk _ [] ps)
       rcases Bool.eq_false_or_eq_true (decide ((IntKind.i64.wrap (((((j.af.g i1).off).g i2).aN)+1))<kG)) with f3 | f3
       · have lV:=of_decide_eq_true f3
         have k18:=wq (d:=d) j ar aj task (IntKind.i64.wrap (((((j.af.g i1).off).g i2).aN)+1)) (aG.mono ay va) (ky.has ay) (mQ.has ay) bu bu bu bu bu bu aA
         have Yx:=fun {al ps} (k:Pk al _ ps)=>(DY<|BM f3 (aI 25 0 (AV.agg [j.ao,j.ai]) iz k!)<|BC f3<|BC f3<|BC f3<|BC f3<|BB f3<|EE k18<|VV (pe (cC j ar aj task (IntKind.i64.wrap (((((j.af.g i1).off).g i2).aN)+1))) false f3)<|k:Pk _ [] ps)
         rcases Bool.eq_false_or_eq_true (cC j ar aj task (IntKind.i64.wrap (((((j.af.g i1).off).g i2).aN)+1))) with f4 | f4
         · have u20:=dZ 3 false true i2 1 o!
           exact bt.round (by simp only[ca,f1,f2,f3,f4,cond_true,cond_false]) (pk (d+3) _ _ hh _ hh (Yx<|BB f4<|CN 3<|VV u20<|CC<|ZZ) k!) (bp.refl aA) _ k! (fun x=>gZ aX aU task from_ i1 j ar aj kZ ky mQ xI np va A5 Lh Li Lj Lk Ll Lm Cw (i2+1) (IntKind.i64.wrap (((((j.af.g i1).off).g i2).aN)+1)) o! x hh aA ay iz)
         · have u20:=dZ 3 false true i2 1 o!
           exact bt.round (by simp only[ca,f1,f2,f3,f4,cond_true,cond_false]) (pk (d+3) _ _ hh _ hh (Yx<|BC f4<|VV u20<|CC<|ZZ) k!) (bp.refl aA) _ k! (fun x=>gZ aX aU task from_ i1 j ar aj kZ ky mQ xI np va A5 Lh Li Lj Lk Ll Lm Cw (i2+1) kG o! x hh aA ay iz)
       · have lV:=of_decide_eq_false f3
         have u18:=dZ 3 false true i2 1 o!
         exact bt.round (by simp only[ca,f1,f2,f3,cond_true,cond_false]) (pk (d+3) _ _ hh _ hh (DY<|BB f3<|BB f3<|BB f3<|BB f3<|BB f3<|BV f3 (sS false f3)<|FF<|CC<|VV u18<|CC<|ZZ) k!) (bp.refl aA) _ k! (fun x=>gZ aX aU task from_ i1 j ar aj kZ ky mQ xI np va A5 Lh Li Lj Lk Ll Lm Cw (i2+1) kG o! x hh aA ay iz)
   · have dQ:=of_decide_eq_false f1
     have u16:=dZ 3 false true i2 1 o!
     exact bt.round (by simp only[ca,f1,cond_true,cond_false]) (pk (d+3) _ _ hh _ hh (Oa<|BB f1<|BB f1<|BB f1<|BV f1 (sS false f1)<|CC<|FF<|FF<|FF<|FF<|FF<|FF<|CC<|FF<|CC<|VV u16<|CC<|ZZ) k!) (bp.refl aA) _ k! (fun x=>gZ aX aU task from_ i1 j ar aj kZ ky mQ xI np va A5 Lh Li Lj Lk Ll Lm Cw (i2+1) kG o! x hh aA ay iz)
def eL (j:cG) (from_:Int) (ar:List Int) (aj:List Bool) (task:Int):Nat→Nat→Int→Int
 | 0,_,eF=>eF
 | nH+1,i1,eF=>eL j from_ ar aj task nH (i1+1) (ca j i1 from_ ar aj task (((j.af.g i1).off).length) 0 eF)
theorem uM {d:Nat} {h:aw} (aX:AV) (aU:AV) (task:Int) (from_:Int) (j:cG) (ar:List Int) (aj:List Bool) (d_:Nat) (db:bS h .i64 3 aX ar) (ft:l7 h 4 aU aj) (nI:aM h j.ao j.ab) (jJ:aM h j.ai j.af) (oJ:aG.ok h j) (mP:aj.length=j.ab.length) (qJ:ar.length=j.ab.length) (ry:0≤task) (xz:task<(j.ab.length:Int)) (Ct:∀q,q<(j.ab.g task.toNat).ax.length→0≤(j.ab.g task.toNat).ax.g q∧(j.ab.g task.toNat).ax.g q<(j.ab.length:Int)) (Cu:∀q,q<(j.ab.g task.toNat).au.length→0≤((j.ab.g task.toNat).au.g q).ah∧((j.ab.g task.toNat).au.g q).ah<(j.af.length:Int)):∀(k_ i_:Nat) (eF:Int) (_:i_+k_=j.af.length) (x:Nat→AV) (hh:aw) (aA:Tidy hh) (ay:Has h hh) (cN:hh.get d_=some (aH.cells [j.ao,j.ai] 25 false)),bt (cU (d+3)) GX ⟨((x 0)::aX::aU::(Zi task)::(Zi from_)::(Pt d_)::rx x 6 5 ((Zi eF)::(x 12)::(x 13)::(Zn i_)::rx x 15 105 [])),hh,[],.no⟩ (.exit 2) hh (fun r y=>((y 0)::aX::aU::(Zi task)::(Zi from_)::(Pt d_)::rx y 6 5 ((Zi r)::rx y 12 108 []))) (fun r=>True) (eL j from_ ar aj task k_ i_ eF)
 | 0,i1,eF,gq,x,hh,aA,ay,cN=>by
   have ik:=db.small
   have jY:=ft.small
   have zu:=nI.small
   have GR:=jJ.small
   have tG:=aA _ _ cN
   have gL:cc (some (.slice 36)) (some j.ai)=some (Zn j.af.length):=(jJ.has ay).len
   have q2:(decide (((i1:Nat):Int)<((j.af.length:Nat):Int)))=false:=d!
   exact bt.out eF rfl (pk (d+3) _ _ hh _ hh (CN 2<|MM (aI 23 1 j.ai cN k!)<|VV gL<|VV (bO 3 false false .i64 ((i1:Nat):Int) ((j.af.length:Nat):Int))<|BB q2<|ZZ) k!) (bp.refl aA) trivial k!
 | nH+1,i1,eF,gq,x,hh,aA,ay,cN=>by
   have ik:=db.small
   have jY:=ft.small
   have zu:=nI.small
   have GR:=jJ.small
   have tG:=aA _ _ cN
   have gL:cc (some (.slice 36)) (some j.ai)=some (Zn j.af.length):=(jJ.has ay).len
   have q2:(decide (((i1:Nat):Int)<((j.af.length:Nat):Int)))=true:=d!
   obtain ⟨yl3,h4,nX,fA,tM⟩:=gZ (d:=d) (h:=hh) aX aU task from_ i1 j ar aj d_ (db.has ay) (ft.has ay) (nI.has ay) (jJ.has ay) (aG.mono ay oJ) o! o! o! o! o! (by assumption) (by assumption) (((j.af.g i1).off).length) 0 eF o! (fun k_=>(((x 0)::aX::aU::(Zi task)::(Zi from_)::(Pt d_)::rx x 6 5 ((Zi eF)::(x 12)::(x 13)::(Zn i1)::(Zi 0)::rx x 16 53 ((Zn i1)::(AV.ptr d_ 1)::j.ai::(Zn j.af.length)::(AV.bool (decide (((i1:Nat):Int)<((j.af.length:Nat):Int))))::rx x 74 46 []))):List AV).getD k_ AV.undef) hh aA (Has.refl _) cN
   have nW:=fA.y
   have NI:hh.nx≤h4.nx:=fA.n
   have nJ:Has hh h4:=fA.a
   have u5:=dZ 3 false true i1 1 o!
   exact bt.round (by simp only[eL,cond_true,cond_false]) (pk (d+3) _ _ hh _ h4 (CN 2<|MM (aI 23 1 j.ai cN k!)<|VV gL<|VV (bO 3 false false .i64 ((i1:Nat):Int) ((j.af.length:Nat):Int))<|BC q2<|LL nX<|CC<|VV u5<|CC<|ZZ) k!) (⟨nW,nJ,by omega⟩) _ k! (fun x=>uM aX aU task from_ j ar aj d_ db ft nI jJ oJ mP qJ ry xz Ct Cu nH (i1+1) (ca j i1 from_ ar aj task (((j.af.g i1).off).length) 0 eF) o! x h4 nW (ay.trans nJ) (fA.a _ _ cN))
def eG (j:cG) (ar:List Int) (aj:List Bool) (task:Int) (from_:Int):Int:=(bif (cC j ar aj task from_) then from_ else (eL j from_ ar aj task j.af.length 0 (bF ar j aj from_ task j.ab.length 0 (-1))))
theorem LB {d:Nat} {h:aw} {aX aU:AV} (j:cG) (ar:List Int) (aj:List Bool) (task:Int) (from_:Int) (bZ:aG.ok h j) (im:bS h .i64 3 aX ar) (iZ:l7 h 4 aU aj) (nE:aj.length=j.ab.length) (qI:ar.length=j.ab.length) (yS:0≤task) (Ar:task<(j.ab.length:Int)) (DJ:∀q,q<(j.ab.g task.toNat).ax.length→0≤(j.ab.g task.toNat).ax.g q∧(j.ab.g task.toNat).ax.g q<(j.ab.length:Int)) (Uh:∀q,q<(j.ab.g task.toNat).au.length→0≤((j.ab.g task.toNat).au.g q).ah∧((j.ab.g task.toNat).au.g q).ah<(j.af.length:Int)) (ct:Tidy h):cU (d+4) (.fn 58) [(AV.agg [j.ao,j.ai]),aX,aU,(Zi task),(Zi from_)] h= .ret (Zi (eG j ar aj task from_)) h:=by
 have zq:=im.small
 have zp:=iZ.small
 have eT:=bZ.1.small
 have eU:=bZ.2.small
 obtain ⟨h1,dH,cP,kr,bk,bW⟩:=kh ct (aH.cells [j.ao,j.ai] 25 false)
 have bB:Has h h1:=bW
 have k2:=wq (d:=d) j ar aj task from_ (aG.mono bB bZ) (im.has bB) (iZ.has bB) bu bu bu bu bu bu cP
 have QH:=fun {al ps} (k:Pk al _ ps)=>(NN dH (fun i=>(Pt i))<|CN 2<|MM (aI 25 0 (AV.agg [j.ao,j.ai]) bk k!)<|CN 4<|EE k2<|k:Pk _ [] ps)
 rcases Bool.eq_false_or_eq_true (cC j ar aj task from_) with f0 | f0
 · have e:eG j ar aj task from_=from_:=by simp only[eG,f0,cond_true,cond_false]
   rw[e]
   exact aE rfl (aZ Tryz.func58 Bf rfl (.inr rfl) (pk (d+3) _ _ h _ h1 (QH<|BB f0<|CN 2<|ZZ) k!) k!) bB rfl
 · obtain ⟨xB,h5,dX,dC,Sx⟩:=fX (d:=d) (h:=h) aX aU task from_ j ar aj h.nx im iZ bZ.1 bZ.2 bZ o! o! o! o! (by assumption) (by assumption) j.ab.length 0 (-1) o! (fun k_=>(((AV.agg [j.ao,j.ai])::aX::aU::(Zi task)::(Zi from_)::(Pt h.nx)::AV.undef::AV.undef::AV.undef::AV.undef::(Zi 0)::(Zi (-1))::(Zi 0)::AV.undef::AV.undef::AV.undef::AV.undef::(AV.agg [j.ao,j.ai])::aX::aU::(Zi task)::(Zi from_)::(AV.bool (cC j ar aj task from_))::lk 97):List AV).getD k_ AV.undef) h1 cP bB bk
   have kK:=dC.y
   have tC:h1.nx≤h5.nx:=dC.n
   have gE:Has h h5:=bB.trans dC.a
   obtain ⟨yl6,h7,j2,wB,LC⟩:=uM (d:=d) (h:=h) aX aU task from_ j ar aj h.nx im iZ bZ.1 bZ.2 bZ o! o! o! o! (by assumption) (by assumption) j.af.length 0 (bF ar j aj from_ task j.ab.length 0 (-1)) o! (fun k_=>(((xB 0)::aX::aU::(Zi task)::(Zi from_)::(Pt h.nx)::rx xB 6 5 ((Zi (bF ar j aj from_ task j.ab.length 0 (-1)))::(xB 12)::(xB 13)::(Zi 0)::rx xB 15 105 [])):List AV).getD k_ AV.undef) h5 kK gE (dC.a _ _ bk)
   have eO:=wB.y
   have HL:h5.nx≤h7.nx:=wB.n
   have du:Has h h7:=gE.trans wB.a
   have acq:Has h5 h7:=wB.a
   have e:eG j ar aj task from_=(eL j from_ ar aj task j.af.length 0 (bF ar j aj from_ task j.ab.length 0 (-1))):=by simp only[eG,f0,cond_true,cond_false]
   rw[e]
   exact aE rfl (aZ Tryz.func58 Bf rfl (.inr rfl) (pk (d+3) _ _ h _ h7 (QH<|BC f0<|LL dX<|CC<|LL j2<|CN 2<|ZZ) k!) k!) du rfl
end Go.Proofs.aJ
