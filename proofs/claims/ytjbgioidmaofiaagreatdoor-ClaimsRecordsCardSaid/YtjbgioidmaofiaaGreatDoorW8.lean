import Derived.Test.YtjbgioidmaofiaaGreatDoorW0
import Derived.Test.YtjbgioidmaofiaaGreatDoorW4
import Derived.Test.YtjbgioidmaofiaaGreatDoorW3
import Derived.Test.YtjbgioidmaofiaaGreatDoorW7
namespace Go.Proofs.aA
open Go.Proofs Ab
noncomputable section
set_option maxRecDepth 100000
set_option maxHeartbeats 4000000
set_option linter.unusedVariables false
set_option linter.unusedSimpArgs false
def sj:Code:=(Tryz.f6.body).getD .skip
theorem tB:Tryz.f6.body=some sj:=by kernel_rfl
def Ej:Code:=(bY sj).getD 0 .skip
def cS (l_:List Fact):Nat→Nat→List UInt8→List UInt8
 | 0,_,fW=>fW
 | eX+1,i0,fW=>cS l_ eX (i0+1) (fW++(aM (l_.g i0)))
theorem sm {d:Nat} {h:ag} (bw:AV) (l_:List Fact) (iR:Nat) (aR:ax h bw l_) (hG:h.get 0=some (aw.cells (aJ .u64 fL) 230 true)) (jc:∀i,i<l_.length→Qq (l_.g i)) (tu:l_.length≤512) (bK:Tidy h) (T1:h.nx≤iR):∀(k_ i_:Nat) (fW:List UInt8) (mA:AV) (mB:AV) (_:i_+k_=l_.length) (_:(List.length fW≤6000*i_)) (x:Nat→AV) (hh:ag) (aO:Tidy hh) (aF:Has h hh) (pa:h.nx≤hh.nx) (jy:hh.get iR=some (aw.cells [mA,mB] 60 false)) (pR:mA= .cI∨mA= .ptr iR 0) (pj:b_ 5 h hh mB (uD fW)) (gP:bI mB iR),iL (σ:=List UInt8) (ζ:=AV×AV) (cC (d+7)) Ej ⟨(rx x 0 5 ((Pt iR)::rx x 6 7 (bw::(Zn l_.length)::(Zn i_)::rx x 16 10 []))),hh,[],.no⟩ (.exit 0) hh (fun r z y=>(rx y 0 5 ((Pt iR)::rx y 6 7 (bw::(Zn l_.length)::rx y 15 11 [])))) (fun r z hk=>Has h hk∧hk.get iR=some (.cells [z.1,z.2] 60 false)∧(z.1= .cI∨z.1= .ptr iR 0)∧b_ 5 h hk z.2 (uD r)∧bI z.2 iR∧(List.length r≤6000*l_.length)) (cS l_ k_ i_ fW)
 | 0,i0,fW,mA,mB,nR,Uc,x,hh,aO,aF,pa,jy,pR,pj,gP=>by
   have db:=aR.small
   have Nx:=aO _ _ jy
   have aC:i0<l_.length→Qq (l_.g i0):=jc i0
   have q1:(decide (((i0:Nat):Int)<((l_.length:Nat):Int)))=false:=d!
   exact iL.out fW (mA,mB) rfl (pk (d+7) _ _ hh _ hh (VV (bx 3 false false .i64 ((i0:Nat):Int) ((l_.length:Nat):Int))<|BB q1<|ZZ) k!) aO o! ⟨aF,jy,pR,pj,gP,(show (List.length fW≤6000*l_.length) from (by first | omega | (simp only[List.length_append,List.length_nil];omega)))⟩ k!
 | eX+1,i0,fW,mA,mB,nR,Uc,x,hh,aO,aF,pa,jy,pR,pj,gP=>by
   have db:=aR.small
   have Nx:=aO _ _ jy
   have aC:i0<l_.length→Qq (l_.g i0):=jc i0
   have q1:(decide (((i0:Nat):Int)<((l_.length:Nat):Int)))=true:=d!
   obtain ⟨p3,q4,o7⟩:=aR.elem (i:=i0) o!
   have yK:bP env (some (.slice 40)) (some bw) (some (Zn i0))=some (AV.ptr p3 q4):=o7
   have HQ:bH env hh 40 (AV.ptr p3 q4)=some (AV.agg [(Zi (l_.g i0).time),(AV.str (l_.g i0).kind),(AV.str (l_.g i0).item),(AV.str (l_.g i0).bl),(Zi (l_.g i0).number)]):=(aR.has aF).load o! o7
   obtain ⟨h6,r6,mr,F5,qL,jL⟩:=te aO (aw.cells [(Zi 0),(AV.str []),(AV.str []),(AV.str []),(Zi 0)] 40 false)
   have mu:Has h h6:=aF.trans jL
   have sg:Has hh h6:=jL
   obtain ⟨h7,r7,jJ,F6,jM,fN⟩:=FW (t:=40) (n:=5) (i:=hh.nx) (L:=[(Zi (l_.g i0).time),(AV.str (l_.g i0).kind),(AV.str (l_.g i0).item),(AV.str (l_.g i0).bl),(Zi (l_.g i0).number)]) mr qL k! rfl rfl (by simp only[AV.cells,List.all_cons,List.all_nil,Bool.and_true,Bool.and_self,qF,m3,qG,qH,kC,wc,we,wg,wh,wi,qI])
   have hX:Has h h7:=Has.iE mu fN bK o!
   have nr:Has hh h7:=Has.iE sg fN aO o!
   have abR:(aM (l_.g i0)).length≤6000:=xU (by first | omega | assumption | exact (aC o!).1 | exact (aC o!).2.1 | exact (aC o!).2.2.1 | exact (aC o!).2.2.2.1 | exact (aC o!).2.2.2.2.1 | exact (aC o!).2.2.2.2.2.1 | exact (aC o!).2.2.2.2.2.2) (by first | omega | assumption | exact (aC o!).1 | exact (aC o!).2.1 | exact (aC o!).2.2.1 | exact (aC o!).2.2.2.1 | exact (aC o!).2.2.2.2.1 | exact (aC o!).2.2.2.2.2.1 | exact (aC o!).2.2.2.2.2.2) (by first | omega | assumption | exact (aC o!).1 | exact (aC o!).2.1 | exact (aC o!).2.2.1 | exact (aC o!).2.2.2.1 | exact (aC o!).2.2.2.2.1 | exact (aC o!).2.2.2.2.2.1 | exact (aC o!).2.2.2.2.2.2) (by first | omega | assumption | exact (aC o!).1 | exact (aC o!).2.1 | exact (aC o!).2.2.1 | exact (aC o!).2.2.2.1 | exact (aC o!).2.2.2.2.1 | exact (aC o!).2.2.2.2.2.1 | exact (aC o!).2.2.2.2.2.2) (by first | omega | assumption | exact (aC o!).1 | exact (aC o!).2.1 | exact (aC o!).2.2.1 | exact (aC o!).2.2.2.1 | exact (aC o!).2.2.2.2.1 | exact (aC o!).2.2.2.2.2.1 | exact (aC o!).2.2.2.2.2.2) (by first | omega | assumption | exact (aC o!).1 | exact (aC o!).2.1 | exact (aC o!).2.2.1 | exact (aC o!).2.2.2.1 | exact (aC o!).2.2.2.2.1 | exact (aC o!).2.2.2.2.2.1 | exact (aC o!).2.2.2.2.2.2) (by first | omega | assumption | exact (aC o!).1 | exact (aC o!).2.1 | exact (aC o!).2.2.1 | exact (aC o!).2.2.2.1 | exact (aC o!).2.2.2.2.1 | exact (aC o!).2.2.2.2.2.1 | exact (aC o!).2.2.2.2.2.2)
   have k8:=xI (d:=d) (l_.g i0) (au.mono hX (aR.ok (i:=i0) o!)) (hX _ _ hG) (by first | omega | assumption | exact (aC o!).1 | exact (aC o!).2.1 | exact (aC o!).2.2.1 | exact (aC o!).2.2.2.1 | exact (aC o!).2.2.2.2.1 | exact (aC o!).2.2.2.2.2.1 | exact (aC o!).2.2.2.2.2.2) (by first | omega | assumption | exact (aC o!).1 | exact (aC o!).2.1 | exact (aC o!).2.2.1 | exact (aC o!).2.2.2.1 | exact (aC o!).2.2.2.2.1 | exact (aC o!).2.2.2.2.2.1 | exact (aC o!).2.2.2.2.2.2) (by first | omega | assumption | exact (aC o!).1 | exact (aC o!).2.1 | exact (aC o!).2.2.1 | exact (aC o!).2.2.2.1 | exact (aC o!).2.2.2.2.1 | exact (aC o!).2.2.2.2.2.1 | exact (aC o!).2.2.2.2.2.2) (by first | omega | assumption | exact (aC o!).1 | exact (aC o!).2.1 | exact (aC o!).2.2.1 | exact (aC o!).2.2.2.1 | exact (aC o!).2.2.2.2.1 | exact (aC o!).2.2.2.2.2.1 | exact (aC o!).2.2.2.2.2.2) (by first | omega | assumption | exact (aC o!).1 | exact (aC o!).2.1 | exact (aC o!).2.2.1 | exact (aC o!).2.2.2.1 | exact (aC o!).2.2.2.2.1 | exact (aC o!).2.2.2.2.2.1 | exact (aC o!).2.2.2.2.2.2) (by first | omega | assumption | exact (aC o!).1 | exact (aC o!).2.1 | exact (aC o!).2.2.1 | exact (aC o!).2.2.2.1 | exact (aC o!).2.2.2.2.1 | exact (aC o!).2.2.2.2.2.1 | exact (aC o!).2.2.2.2.2.2) (by first | omega | assumption | exact (aC o!).1 | exact (aC o!).2.1 | exact (aC o!).2.2.1 | exact (aC o!).2.2.2.1 | exact (aC o!).2.2.2.2.1 | exact (aC o!).2.2.2.2.2.1 | exact (aC o!).2.2.2.2.2.2) jJ
   obtain ⟨Oj,h9,Ud,o9,Qs,No,T0,XD,XE,abS⟩:=aa7 (d:=d+5) (g:=h) (t:=fW) (s:=(aM (l_.g i0))) jJ (fN _ _ o! (jL _ _ jy)) pR (b_.has pj nr) gP o! (by first | omega | assumption | exact (aC o!).1 | exact (aC o!).2.1 | exact (aC o!).2.2.1 | exact (aC o!).2.2.2.1 | exact (aC o!).2.2.2.2.1 | exact (aC o!).2.2.2.2.2.1 | exact (aC o!).2.2.2.2.2.2)
   have ng:Has h h9:=Has.R6 hX bK (Nat.le_refl _) (b_.has pj nr) o! XE
   have P_:=iD 3 false true i0 1 o!
   exact iL.round (by simp only[cS,ah,ae]) (pk (d+7) _ _ hh _ h9 (VV (bx 3 false false .i64 ((i0:Nat):Int) ((l_.length:Nat):Int))<|BV q1 yK<|MM HQ<|NN r6 (fun i=>(Pt i))<|SS r7<|MM (aX 40 0 (AV.agg [(Zi (l_.g i0).time),(AV.str (l_.g i0).kind),(AV.str (l_.g i0).item),(AV.str (l_.g i0).bl),(Zi (l_.g i0).number)]) jM k!)<|EE k8<|EE Ud<|VV P_<|CC<|ZZ) k!) o! _ k! (fun x=>sm bw l_ iR aR hG jc tu bK T1 eX (i0+1) (fW++(aM (l_.g i0))) (Pt iR) Oj o! (show (List.length (fW++(aM (l_.g i0)))≤6000*(i0+1)) from (by first | omega | (simp only[List.length_append,List.length_nil];omega))) x h9 o9 ng o! No (.inr rfl) T0 XD)
def aS (l_:List Fact):List UInt8×Int:=(bif (!decide ((af l_)=0)) then ([],(af l_)) else (bif (decide (65536<(((cS l_ l_.length 0 ([])).length:Nat):Int))) then ([],3) else ((cS l_ l_.length 0 ([])),0)))
theorem Ji {d:Nat} {h:ag} {bw:AV} (l_:List Fact) (cc:ax h bw l_) (hG:h.get 0=some (aw.cells (aJ .u64 fL) 230 true)) (bK:Tidy h):cC (d+8) (.fn 6) [bw] h= .ret (AV.tuple [(AV.str (aS l_).1),(Zi (aS l_).2)]) h:=by
 have jN:=cc.small
 have k1:=ek (d:=d+3) l_ cc bK
 rcases Bool.eq_false_or_eq_true (!decide ((af l_)=0)) with f0 | f0
 · have eg:=uj f0
   have e:aS l_=([],(af l_)):=by simp only[aS,f0,ah,ae]
   rw[e]
   exact ar rfl (aE Tryz.func6 tB rfl (.inr rfl) (pk (d+7) _ _ h _ h (CN 3<|EE k1<|CN 2<|VV (bD 26 false true .i64 (af l_) 0)<|BB f0<|CN 3<|ZZ) k!) k!) (Has.refl _) rfl
 · have eg:=uk f0
   obtain ⟨h3,Qi,Qj,aaD,Tv,Tw⟩:=te bK (aw.cells [AV.cI,AV.aj] 60 false)
   have I0:Has h h3:=Tw
   have Oh:cV (some (.slice 40)) (some bw)=some (Zn l_.length):=cc.len
   obtain ⟨⟨zo7,U5⟩,yl5,h6,BU,mr,abb,XF,GC,YV,BW,EO,QF⟩:=sm (d:=d) (h:=h) bw l_ h.nx cc hG (nf (by assumption)) (gC (by assumption)) bK o! l_.length 0 ([]) AV.cI AV.aj o! (show (List.length ([])≤6000*0) from (by first | omega | (simp only[List.length_append,List.length_nil];omega))) (fun k_=>((bw::AV.undef::(AV.str [])::(Zi 0)::(Zi (af l_))::(Pt h.nx)::AV.undef::AV.undef::bw::(Zi (af l_))::(Zi (af l_))::(AV.bool (!decide ((af l_)=0)))::AV.undef::bw::(Zn l_.length)::(Zi 0)::ck 10):List AV).getD k_ AV.undef) h3 Qj I0 o! Tv (.inl rfl) (.inl ⟨rfl,rfl⟩:b_ 5 h h3 AV.aj (uD [])) (bI.nil _)
   have mu:Has h h6:=XF
   rcases Bool.eq_false_or_eq_true (decide (65536<(((cS l_ l_.length 0 ([])).length:Nat):Int))) with f1 | f1
   · have fq:=of_decide_eq_true f1
     have e:aS l_=([],3):=by simp only[aS,f0,f1,ah,ae]
     rw[e]
     exact ar rfl (aE Tryz.func6 tB rfl (.inr rfl) (pk (d+7) _ _ h _ h6 (CN 3<|EE k1<|CN 2<|VV (bD 26 false true .i64 (af l_) 0)<|BB f0<|NN Qi (fun i=>(Pt i))<|CC<|VV Oh<|CC<|LL BU<|EE (show (cC (d+7)) (.fn 25) [(Pt h.nx)] h6= .ret (Zn (cS l_ l_.length 0 ([])).length) h6 from (XA (d:=d+6) mr GC BW))<|VV (cb 3 false true .i64 (((cS l_ l_.length 0 ([])).length:Nat):Int) 65536)<|BB f1<|CN 2<|ZZ) k!) k!) mu rfl
   · have fq:=of_decide_eq_false f1
     obtain ⟨yk,XG,zJ,Xt,BS⟩:=aa4 (d:=d+6) (g:=h) (t:=(cS l_ l_.length 0 ([]))) mr GC BW (by first | omega | assumption | exact (aC o!).1 | exact (aC o!).2.1 | exact (aC o!).2.2.1 | exact (aC o!).2.2.2.1 | exact (aC o!).2.2.2.2.1 | exact (aC o!).2.2.2.2.2.1 | exact (aC o!).2.2.2.2.2.2)
     have Ef:Has h yk:=Has.R6 (i:=h.nx) mu bK (Nat.le_refl _) BW o! (fun k w _=>BS k w)
     have e:aS l_=((cS l_ l_.length 0 ([])),0):=by simp only[aS,f0,f1,ah,ae]
     rw[e]
     exact ar rfl (aE Tryz.func6 tB rfl (.inr rfl) (pk (d+7) _ _ h _ yk (CN 3<|EE k1<|CN 2<|VV (bD 26 false true .i64 (af l_) 0)<|BB f0<|NN Qi (fun i=>(Pt i))<|CC<|VV Oh<|CC<|LL BU<|EE (show (cC (d+7)) (.fn 25) [(Pt h.nx)] h6= .ret (Zn (cS l_ l_.length 0 ([])).length) h6 from (XA (d:=d+6) mr GC BW))<|VV (cb 3 false true .i64 (((cS l_ l_.length 0 ([])).length:Nat):Int) 65536)<|BB f1<|EE XG<|CN 2<|ZZ) k!) k!) Ef rfl
def uv:Code:=(Tryz.f4.body).getD .skip
theorem pn:Tryz.f4.body=some uv:=by kernel_rfl
def GD:Code:=(bY uv).getD 0 .skip
def gQ (l_:List Fact):Nat→Nat→Int→Int
 | 0,_,yP=>yP
 | eX+1,i0,yP=>gQ l_ eX (i0+1) (IntKind.i64.wrap ((IntKind.i64.wrap ((IntKind.i64.wrap (yP+((List.length ((l_.g i0).kind):Nat):Int)))+((List.length ((l_.g i0).item):Nat):Int)))+((List.length ((l_.g i0).bl):Nat):Int)))
theorem po {d:Nat} {h:ag} (bw:AV) (l_:List Fact) (aR:ax h bw l_):∀(k_ i_:Nat) (yP:Int) (_:i_+k_=l_.length) (x:Nat→AV) (hh:ag) (aO:Tidy hh) (aF:Has h hh),dh (cC (d)) GD ⟨(bw::(x 1)::(x 2)::(Zi yP)::(Zn i_)::rx x 5 43 []),hh,[],.no⟩ (.exit 0) hh (fun r y=>(bw::(y 1)::(y 2)::(Zi r)::rx y 4 44 [])) (fun r=>True) (gQ l_ k_ i_ yP)
 | 0,i0,yP,nR,x,hh,aO,aF=>by
   have db:=aR.small
   have gB:cV (some (.slice 40)) (some bw)=some (Zn l_.length):=(aR.has aF).len
   have q2:(decide (((i0:Nat):Int)<((l_.length:Nat):Int)))=false:=d!
   exact dh.out yP rfl (pk (d) _ _ hh _ hh (CN 2<|VV gB<|VV (bx 3 false false .i64 ((i0:Nat):Int) ((l_.length:Nat):Int))<|BB q2<|ZZ) k!) (cf.refl aO) trivial k!
 | eX+1,i0,yP,nR,x,hh,aO,aF=>by
   have db:=aR.small
   have gB:cV (some (.slice 40)) (some bw)=some (Zn l_.length):=(aR.has aF).len
   have q2:(decide (((i0:Nat):Int)<((l_.length:Nat):Int)))=true:=d!
   obtain ⟨p4,q5,lf⟩:=(aR.has aF).elem (i:=i0) o!
   have ma:bP env (some (.slice 40)) (some bw) (some (Zn i0))=some (AV.ptr p4 q5):=lf
   have o_:bH env hh 9 (AV.ptr p4 (q5+1))=some (AV.str (l_.g i0).kind):=(aR.has aF).part (t:=9) (j:=1) o! lf k! rfl
   have sn7:((l_.g i0).kind).length<2^60:=((aR.has aF).ok (i:=i0) o!).1
   obtain ⟨p9,Xi,Nq⟩:=(aR.has aF).elem (i:=i0) o!
   have YR:bP env (some (.slice 40)) (some bw) (some (Zn i0))=some (AV.ptr p9 Xi):=Nq
   have BK:bH env hh 9 (AV.ptr p9 (Xi+2))=some (AV.str (l_.g i0).item):=(aR.has aF).part (t:=9) (j:=2) o! Nq k! rfl
   have acs:((l_.g i0).item).length<2^60:=((aR.has aF).ok (i:=i0) o!).2.1
   obtain ⟨p14,q15,R_⟩:=(aR.has aF).elem (i:=i0) o!
   have Bm:bP env (some (.slice 40)) (some bw) (some (Zn i0))=some (AV.ptr p14 q15):=R_
   have XH:bH env hh 9 (AV.ptr p14 (q15+3))=some (AV.str (l_.g i0).bl):=(aR.has aF).part (t:=9) (j:=3) o! R_ k! rfl
   have acu:((l_.g i0).bl).length<2^60:=((aR.has aF).ok (i:=i0) o!).2.2
   have WZ:=iD 3 false true i0 1 o!
   exact dh.round (by simp only[gQ,ah,ae]) (pk (d) _ _ hh _ hh (CN 2<|VV gB<|VV (bx 3 false false .i64 ((i0:Nat):Int) ((l_.length:Nat):Int))<|BB q2<|CN 3<|VV ma<|CC<|MM o_<|CN 4<|VV YR<|CC<|MM BK<|CN 4<|VV Bm<|CC<|MM XH<|CN 3<|HH o_<|HH (show AV.same 20 (AV.str (l_.g i0).kind) (AV.str (l_.g i0).kind)=true from aK 19 _)<|HH BK<|HH (show AV.same 20 (AV.str (l_.g i0).item) (AV.str (l_.g i0).item)=true from aK 19 _)<|HH XH<|HH (show AV.same 20 (AV.str (l_.g i0).bl) (AV.str (l_.g i0).bl)=true from aK 19 _)<|CC<|VV WZ<|CC<|ZZ) k!) (cf.refl aO) _ k! (fun x=>po bw l_ aR eX (i0+1) (IntKind.i64.wrap ((IntKind.i64.wrap ((IntKind.i64.wrap (yP+((List.length ((l_.g i0).kind):Nat):Int)))+((List.length ((l_.g i0).item):Nat):Int)))+((List.length ((l_.g i0).bl):Nat):Int))) o! x hh aO aF)
def cL (l_:List Fact):Bool:=(bif (decide (30<((l_.length:Nat):Int))) then (bif (decide (((l_.length:Nat):Int)≤512)) then true else (bif (decide (600<((l_.length:Nat):Int))) then true else (decide (3000<(gQ l_ l_.length 0 0))))) else (bif (decide (600<((l_.length:Nat):Int))) then true else (decide (3000<(gQ l_ l_.length 0 0)))))
theorem Ek {d:Nat} {h:ag} {bw:AV} (l_:List Fact) (cc:ax h bw l_) (bK:Tidy h):cC (d+1) (.fn 4) [bw] h= .ret (AV.bool (cL l_)) h:=by
 have jN:=cc.small
 have gB:cV (some (.slice 40)) (some bw)=some (Zn l_.length):=cc.len
 rcases Bool.eq_false_or_eq_true (decide (30<((l_.length:Nat):Int))) with f0 | f0
 · have eg:=of_decide_eq_true f0
   have Bx:cV (some (.slice 40)) (some bw)=some (Zn l_.length):=cc.len
   rcases Bool.eq_false_or_eq_true (decide (((l_.length:Nat):Int)≤512)) with f1 | f1
   · have fq:=of_decide_eq_true f1
     have e:cL l_=true:=by simp only[cL,f0,f1,ah,ae]
     rw[e]
     exact ar rfl (aE Tryz.func4 pn rfl (.inr rfl) (pk (d) _ _ h _ h (CN 2<|VV gB<|VV (cb 3 false true .i64 ((l_.length:Nat):Int) 30)<|CC<|BC f0<|BV f0 Bx<|BV f0 (tc 3 false true .i64 ((l_.length:Nat):Int) 512)<|VV (nG (decide (((l_.length:Nat):Int)≤512)) false f0)<|CC<|BB f1<|BB f1<|BV f1 (uE true f1)<|TT<|CC<|ZZ) k!) k!) (Has.refl _) rfl
   · have fq:=of_decide_eq_false f1
     have B_:cV (some (.slice 40)) (some bw)=some (Zn l_.length):=cc.len
     rcases Bool.eq_false_or_eq_true (decide (600<((l_.length:Nat):Int))) with f2 | f2
     · have Bz:=of_decide_eq_true f2
       have e:cL l_=true:=by simp only[cL,f0,f1,f2,ah,ae]
       rw[e]
       exact ar rfl (aE Tryz.func4 pn rfl (.inr rfl) (pk (d) _ _ h _ h (CN 2<|VV gB<|VV (cb 3 false true .i64 ((l_.length:Nat):Int) 30)<|CC<|BC f0<|BV f0 Bx<|BV f0 (tc 3 false true .i64 ((l_.length:Nat):Int) 512)<|VV (nG (decide (((l_.length:Nat):Int)≤512)) false f0)<|CC<|BC f1<|BV f1 B_<|BV f1 (cb 3 false true .i64 ((l_.length:Nat):Int) 600)<|VV (az (a:=some (AV.bool true)) (b:=some (AV.bool (decide (600<((l_.length:Nat):Int))))) f1)<|BC f2<|ZZ) k!) k!) (Has.refl _) rfl
     · have Bz:=of_decide_eq_false f2
       obtain ⟨YS,h8,nk,nm,YW⟩:=po (d:=d) (h:=h) bw l_ cc l_.length 0 0 o! (fun k_=>((bw::AV.undef::(AV.bool false)::(Zi 0)::(Zi 0)::bw::(Zn l_.length)::(AV.bool (decide (30<((l_.length:Nat):Int))))::(AV.bool (decide (30<((l_.length:Nat):Int))))::bw::(Zn l_.length)::(AV.bool (decide (((l_.length:Nat):Int)≤512)))::(AV.bool (decide (((l_.length:Nat):Int)≤512)))::(AV.bool (decide (((l_.length:Nat):Int)≤512)))::bw::(Zn l_.length)::(AV.bool (decide (600<((l_.length:Nat):Int))))::(AV.bool (decide (600<((l_.length:Nat):Int))))::ck 30):List AV).getD k_ AV.undef) h bK (Has.refl _)
       have jK:=nm.y
       have Qz:h.nx≤h8.nx:=nm.n
       have iP:Has h h8:=nm.a
       have e:cL l_=(decide (3000<(gQ l_ l_.length 0 0))):=by simp only[cL,f0,f1,f2,ah,ae]
       rw[e]
       exact ar rfl (aE Tryz.func4 pn rfl (.inr rfl) (pk (d) _ _ h _ h8 (CN 2<|VV gB<|VV (cb 3 false true .i64 ((l_.length:Nat):Int) 30)<|CC<|BC f0<|BV f0 Bx<|BV f0 (tc 3 false true .i64 ((l_.length:Nat):Int) 512)<|VV (nG (decide (((l_.length:Nat):Int)≤512)) false f0)<|CC<|BC f1<|BV f1 B_<|BV f1 (cb 3 false true .i64 ((l_.length:Nat):Int) 600)<|VV (az (a:=some (AV.bool true)) (b:=some (AV.bool (decide (600<((l_.length:Nat):Int))))) f1)<|BB f2<|CN 2<|LL nk<|CC<|VV (cb 3 false true .i64 (gQ l_ l_.length 0 0) 3000)<|CC<|ZZ) k!) k!) iP rfl
 · have eg:=of_decide_eq_false f0
   have Bx:cV (some (.slice 40)) (some bw)=some (Zn l_.length):=cc.len
   rcases Bool.eq_false_or_eq_true (decide (600<((l_.length:Nat):Int))) with f1 | f1
   · have fq:=of_decide_eq_true f1
     have e:cL l_=true:=by simp only[cL,f0,f1,ah,ae]
     rw[e]
     exact ar rfl (aE Tryz.func4 pn rfl (.inr rfl) (pk (d) _ _ h _ h (CN 2<|VV gB<|VV (cb 3 false true .i64 ((l_.length:Nat):Int) 30)<|CC<|BB f0<|BB f0<|BV f0 (Bf false f0)<|CC<|FF<|CC<|FF<|VV Bx<|FF<|VV (cb 3 false true .i64 ((l_.length:Nat):Int) 600)<|CC<|BC f1<|ZZ) k!) k!) (Has.refl _) rfl
   · have fq:=of_decide_eq_false f1
     obtain ⟨yl5,h6,BU,Ue,QF⟩:=po (d:=d) (h:=h) bw l_ cc l_.length 0 0 o! (fun k_=>((bw::AV.undef::(AV.bool false)::(Zi 0)::(Zi 0)::bw::(Zn l_.length)::(AV.bool (decide (30<((l_.length:Nat):Int))))::(AV.bool (decide (30<((l_.length:Nat):Int))))::AV.undef::AV.undef::AV.undef::(AV.bool false)::(AV.bool false)::bw::(Zn l_.length)::(AV.bool (decide (600<((l_.length:Nat):Int))))::(AV.bool (decide (600<((l_.length:Nat):Int))))::ck 30):List AV).getD k_ AV.undef) h bK (Has.refl _)
     have mr:=Ue.y
     have abb:h.nx≤h6.nx:=Ue.n
     have mu:Has h h6:=Ue.a
     have e:cL l_=(decide (3000<(gQ l_ l_.length 0 0))):=by simp only[cL,f0,f1,ah,ae]
     rw[e]
     exact ar rfl (aE Tryz.func4 pn rfl (.inr rfl) (pk (d) _ _ h _ h6 (CN 2<|VV gB<|VV (cb 3 false true .i64 ((l_.length:Nat):Int) 30)<|CC<|BB f0<|BB f0<|BV f0 (Bf false f0)<|CC<|FF<|CC<|FF<|VV Bx<|FF<|VV (cb 3 false true .i64 ((l_.length:Nat):Int) 600)<|CC<|BB f1<|CN 2<|LL BU<|CC<|VV (cb 3 false true .i64 (gQ l_ l_.length 0 0) 3000)<|CC<|ZZ) k!) k!) mu rfl
def so:Code:=(Tryz.f12.body).getD .skip
theorem tC:Tryz.f12.body=some so:=by kernel_rfl
def El:Code:=(bY so).getD 0 .skip
def gG (a:List Int) (b:List Int):Nat→Nat→Option (Bool)
 | 0,_=>none
 | eX+1,i0=>(bif (!decide ((a.g i0)=(b.g i0))) then some false else gG a b eX (i0+1))
theorem nu {d:Nat} {h:ag} (aV:AV) (bV:AV) (a:List Int) (b:List Int) (aR:ef h .u64 73 aV a) (eJ:ef h .u64 73 bV b) (jc:a.length=b.length):∀(k_ i_:Nat) (_:i_+k_=a.length) (x:Nat→AV) (hh:ag) (aO:Tidy hh) (aF:Has h hh),aD (cC (d)) El ⟨(aV::bV::rx x 2 3 ((Zn i_)::rx x 6 20 [])),hh,[],.no⟩ (.exit 0) hh (fun y=>(aV::bV::rx y 2 24 [])) (fun r y=>(aV::bV::(y 2)::(y 3)::(AV.bool r)::rx y 5 21 [])) (gG a b k_ i_)
 | 0,i0,nR,x,hh,aO,aF=>by
   have db:=aR.small
   have lg:=eJ.small
   have gB:cV (some (.slice 73)) (some aV)=some (Zn a.length):=(aR.has aF).len
   have q2:(decide (((i0:Nat):Int)<((a.length:Nat):Int)))=false:=d!
   exact aD.out rfl (pk (d) _ _ hh _ hh (CN 2<|VV gB<|VV (bx 3 false false .i64 ((i0:Nat):Int) ((a.length:Nat):Int))<|BB q2<|ZZ) k!) (cf.refl aO) k!
 | eX+1,i0,nR,x,hh,aO,aF=>by
   have db:=aR.small
   have lg:=eJ.small
   have gB:cV (some (.slice 73)) (some aV)=some (Zn a.length):=(aR.has aF).len
   have q2:(decide (((i0:Nat):Int)<((a.length:Nat):Int)))=true:=d!
   obtain ⟨p4,q5,lf,_⟩:=(aR.has aF).elem (i:=i0) o!
   have ma:bP env (some (.slice 73)) (some aV) (some (Zn i0))=some (AV.ptr p4 q5):=lf
   have o_:bH env hh 73 (AV.ptr p4 q5)=some (AV.int .u64 (a.g i0)):=(aR.has aF).load o! lf
   obtain ⟨p8,q9,D8,_⟩:=(eJ.has aF).elem (i:=i0) o!
   have JG:bP env (some (.slice 73)) (some bV) (some (Zn i0))=some (AV.ptr p8 q9):=D8
   have pW:bH env hh 73 (AV.ptr p8 q9)=some (AV.int .u64 (b.g i0)):=(eJ.has aF).load o! D8
   rcases Bool.eq_false_or_eq_true (!decide ((a.g i0)=(b.g i0))) with f1 | f1
   · have fq:=uj f1
     exact aD.ret false (by simp only[gG,f1,ah,ae]) (pk (d) _ _ hh _ hh (CN 2<|VV gB<|VV (bx 3 false false .i64 ((i0:Nat):Int) ((a.length:Nat):Int))<|BB q2<|CN 2<|VV ma<|MM o_<|CN 2<|VV JG<|MM pW<|VV (bD 73 false false .u64 (a.g i0) (b.g i0))<|HH o_<|HH (show AV.same 20 (AV.int .u64 (a.g i0)) (AV.int .u64 (a.g i0))=true from aL 19 _ _)<|HH pW<|HH (show AV.same 20 (AV.int .u64 (b.g i0)) (AV.int .u64 (b.g i0))=true from aL 19 _ _)<|BC f1<|ZZ) k!) (cf.refl aO) k!
   · have fq:=uk f1
     have P_:=iD 3 false true i0 1 o!
     exact aD.round (by simp only[gG,f1,ah,ae]) (pk (d) _ _ hh _ hh (CN 2<|VV gB<|VV (bx 3 false false .i64 ((i0:Nat):Int) ((a.length:Nat):Int))<|BB q2<|CN 2<|VV ma<|MM o_<|CN 2<|VV JG<|MM pW<|VV (bD 73 false false .u64 (a.g i0) (b.g i0))<|HH o_<|HH (show AV.same 20 (AV.int .u64 (a.g i0)) (AV.int .u64 (a.g i0))=true from aL 19 _ _)<|HH pW<|HH (show AV.same 20 (AV.int .u64 (b.g i0)) (AV.int .u64 (b.g i0))=true from aL 19 _ _)<|BC f1<|VV P_<|CC<|ZZ) k!) (cf.refl aO) _ k! (fun x=>nu aV bV a b aR eJ jc eX (i0+1) o! x hh aO aF)
def dI (a:List Int) (b:List Int):Bool:=(bif (!decide (((a.length:Nat):Int)=((b.length:Nat):Int))) then false else (match (gG a b a.length 0) with | none=>true | some Gb=>Gb))
theorem Jj {d:Nat} {h:ag} {aV bV:AV} (a:List Int) (b:List Int) (zP:ef h .u64 73 aV a) (zQ:ef h .u64 73 bV b) (bK:Tidy h):cC (d+1) (.fn 12) [aV,bV] h= .ret (AV.bool (dI a b)) h:=by
 have ND:=zP.small
 have NF:=zQ.small
 have gB:cV (some (.slice 73)) (some aV)=some (Zn a.length):=zP.len
 have QB:cV (some (.slice 73)) (some bV)=some (Zn b.length):=zQ.len
 rcases Bool.eq_false_or_eq_true (!decide (((a.length:Nat):Int)=((b.length:Nat):Int))) with f0 | f0
 · have eg:=uj f0
   have e:dI a b=false:=by simp only[dI,f0,ah,ae]
   rw[e]
   exact ar rfl (aE Tryz.func12 tC rfl (.inr rfl) (pk (d) _ _ h _ h (CN 2<|VV gB<|CC<|VV QB<|VV (bD 3 false false .i64 ((a.length:Nat):Int) ((b.length:Nat):Int))<|BC f0<|ZZ) k!) k!) (Has.refl _) rfl
 · have eg:=uk f0
   cases ft:gG a b a.length 0 with
   | none=>
     obtain ⟨RL,h5,gu,gv⟩:=aD.n ft (nu (d:=d) (h:=h) aV bV a b zP zQ o! a.length 0 o! (fun k_=>((aV::bV::AV.undef::AV.undef::(AV.bool false)::(Zi 0)::aV::(Zn a.length)::bV::(Zn b.length)::(AV.bool (!decide (((a.length:Nat):Int)=((b.length:Nat):Int))))::ck 15):List AV).getD k_ AV.undef) h bK (Has.refl _))
     have xJ:=gv.y
     have DY:h.nx≤h5.nx:=gv.n
     have o6:Has h h5:=gv.a
     have e:dI a b=true:=by simp only[dI,f0,ft,ah,ae]
     rw[e]
     exact ar rfl (aE Tryz.func12 tC rfl (.inr rfl) (pk (d) _ _ h _ h5 (CN 2<|VV gB<|CC<|VV QB<|VV (bD 3 false false .i64 ((a.length:Nat):Int) ((b.length:Nat):Int))<|BC f0<|LL gu<|CC<|ZZ) k!) k!) o6 rfl
   | some Gb=>
     obtain ⟨RL,h5,gu,gv⟩:=aD.r ft (nu (d:=d) (h:=h) aV bV a b zP zQ o! a.length 0 o! (fun k_=>((aV::bV::AV.undef::AV.undef::(AV.bool false)::(Zi 0)::aV::(Zn a.length)::bV::(Zn b.length)::(AV.bool (!decide (((a.length:Nat):Int)=((b.length:Nat):Int))))::ck 15):List AV).getD k_ AV.undef) h bK (Has.refl _))
     have xJ:=gv.y
     have DY:h.nx≤h5.nx:=gv.n
     have o6:Has h h5:=gv.a
     have e:dI a b=Gb:=by simp only[dI,f0,ft,ah,ae]
     rw[e]
     exact ar rfl (aE Tryz.func12 tC rfl (.inr rfl) (pk (d) _ _ h _ h5 (CN 2<|VV gB<|CC<|VV QB<|VV (bD 3 false false .i64 ((a.length:Nat):Int) ((b.length:Nat):Int))<|BC f0<|LL gu<|ZZ) k!) k!) o6 rfl
def sq:Code:=(Tryz.f55.body).getD .skip
theorem Jk:Tryz.f55.body=some sq:=by kernel_rfl
def Em:Code:=(bY sq).getD 0 .skip
def eH (l_:List Fact) (x_:Fact):Nat→Nat→Int→Int
 | 0,_,dt=>dt
 | eX+1,i0,dt=>(bif (Fact.eq (l_.g i0) x_) then eH l_ x_ eX (i0+1) (IntKind.i64.wrap (dt+1)) else eH l_ x_ eX (i0+1) dt)
theorem nv {d:Nat} {h:ag} (bw:AV) (l_:List Fact) (x_:Fact) (iR:Nat) (aR:ax h bw l_) (eJ:x_.kind.length<2^60) (XI:x_.item.length<2^60) (XJ:x_.bl.length<2^60) (XK:au.ok h x_):∀(k_ i_:Nat) (dt:Int) (_:i_+k_=l_.length) (x:Nat→AV) (hh:ag) (aO:Tidy hh) (aF:Has h hh) (jy:hh.get iR=some (aw.cells [(Zi x_.time),(AV.str x_.kind),(AV.str x_.item),(AV.str x_.bl),(Zi x_.number)] 40 false)),dh (cC (d)) Em ⟨(bw::(x 1)::(x 2)::(Pt iR)::(x 4)::(Zi dt)::(Zn i_)::rx x 7 15 []),hh,[],.no⟩ (.exit 0) hh (fun r y=>(bw::(y 1)::(y 2)::(Pt iR)::(y 4)::(Zi r)::rx y 6 16 [])) (fun r=>True) (eH l_ x_ k_ i_ dt)
 | 0,i0,dt,nR,x,hh,aO,aF,jy=>by
   have db:=aR.small
   have Nx:=aO _ _ jy
   have gB:cV (some (.slice 40)) (some bw)=some (Zn l_.length):=(aR.has aF).len
   have q2:(decide (((i0:Nat):Int)<((l_.length:Nat):Int)))=false:=d!
   exact dh.out dt rfl (pk (d) _ _ hh _ hh (CN 2<|VV gB<|VV (bx 3 false false .i64 ((i0:Nat):Int) ((l_.length:Nat):Int))<|BB q2<|ZZ) k!) (cf.refl aO) trivial k!
 | eX+1,i0,dt,nR,x,hh,aO,aF,jy=>by
   have db:=aR.small
   have Nx:=aO _ _ jy
   have gB:cV (some (.slice 40)) (some bw)=some (Zn l_.length):=(aR.has aF).len
   have q2:(decide (((i0:Nat):Int)<((l_.length:Nat):Int)))=true:=d!
   obtain ⟨p4,q5,lf⟩:=(aR.has aF).elem (i:=i0) o!
   have ma:bP env (some (.slice 40)) (some bw) (some (Zn i0))=some (AV.ptr p4 q5):=lf
   have o_:bH env hh 40 (AV.ptr p4 q5)=some (AV.agg [(Zi (l_.g i0).time),(AV.str (l_.g i0).kind),(AV.str (l_.g i0).item),(AV.str (l_.g i0).bl),(Zi (l_.g i0).number)]):=(aR.has aF).load o! lf
   have u7:aN env .eql 40 false false (some (AV.agg [(Zi (l_.g i0).time),(AV.str (l_.g i0).kind),(AV.str (l_.g i0).item),(AV.str (l_.g i0).bl),(Zi (l_.g i0).number)])) (some (AV.agg [(Zi x_.time),(AV.str x_.kind),(AV.str x_.item),(AV.str x_.bl),(Zi x_.number)]))=some (AV.bool (Fact.eq (l_.g i0) x_)):=Fact.eql (l_.g i0) x_
   have c8:AV.same 20 (AV.agg [(Zi (l_.g i0).time),(AV.str (l_.g i0).kind),(AV.str (l_.g i0).item),(AV.str (l_.g i0).bl),(Zi (l_.g i0).number)]) (AV.agg [(Zi (l_.g i0).time),(AV.str (l_.g i0).kind),(AV.str (l_.g i0).item),(AV.str (l_.g i0).bl),(Zi (l_.g i0).number)])=true:=hU 18 (jT (fun n=>aL n _ _) (jT (fun n=>aK n _) (jT (fun n=>aK n _) (jT (fun n=>aK n _) (jT (fun n=>aL n _ _) Od)))))
   have c9:AV.same 20 (AV.agg [(Zi x_.time),(AV.str x_.kind),(AV.str x_.item),(AV.str x_.bl),(Zi x_.number)]) (AV.agg [(Zi x_.time),(AV.str x_.kind),(AV.str x_.item),(AV.str x_.bl),(Zi x_.number)])=true:=hU 18 (jT (fun n=>aL n _ _) (jT (fun n=>aK n _) (jT (fun n=>aK n _) (jT (fun n=>aK n _) (jT (fun n=>aL n _ _) Od)))))
   rcases Bool.eq_false_or_eq_true (Fact.eq (l_.g i0) x_) with f1 | f1
   · have JF:=iD 3 false true i0 1 o!
     exact dh.round (by simp only[eH,f1,ah,ae]) (pk (d) _ _ hh _ hh (CN 2<|VV gB<|VV (bx 3 false false .i64 ((i0:Nat):Int) ((l_.length:Nat):Int))<|BB q2<|CN 2<|VV ma<|MM o_<|MM (aX 40 0 (AV.agg [(Zi x_.time),(AV.str x_.kind),(AV.str x_.item),(AV.str x_.bl),(Zi x_.number)]) jy k!)<|VV u7<|HH o_<|HH c8<|HH (aX 40 0 (AV.agg [(Zi x_.time),(AV.str x_.kind),(AV.str x_.item),(AV.str x_.bl),(Zi x_.number)]) jy k!)<|HH c9<|BB f1<|CN 4<|VV JF<|CC<|ZZ) k!) (cf.refl aO) _ k! (fun x=>nv bw l_ x_ iR aR eJ XI XJ XK eX (i0+1) (IntKind.i64.wrap (dt+1)) o! x hh aO aF jy)
   · have JF:=iD 3 false true i0 1 o!
     exact dh.round (by simp only[eH,f1,ah,ae]) (pk (d) _ _ hh _ hh (CN 2<|VV gB<|VV (bx 3 false false .i64 ((i0:Nat):Int) ((l_.length:Nat):Int))<|BB q2<|CN 2<|VV ma<|MM o_<|MM (aX 40 0 (AV.agg [(Zi x_.time),(AV.str x_.kind),(AV.str x_.item),(AV.str x_.bl),(Zi x_.number)]) jy k!)<|VV u7<|HH o_<|HH c8<|HH (aX 40 0 (AV.agg [(Zi x_.time),(AV.str x_.kind),(AV.str x_.item),(AV.str x_.bl),(Zi x_.number)]) jy k!)<|HH c9<|BC f1<|VV JF<|CC<|ZZ) k!) (cf.refl aO) _ k! (fun x=>nv bw l_ x_ iR aR eJ XI XJ XK eX (i0+1) dt o! x hh aO aF jy)
def fD (l_:List Fact) (x_:Fact):Int:=(eH l_ x_ l_.length 0 0)
theorem zT {d:Nat} {h:ag} {bw:AV} (l_:List Fact) (x_:Fact) (cc:ax h bw l_) (F8:au.ok h x_) (bK:Tidy h):cC (d+1) (.fn 55) [bw,(AV.agg [(Zi x_.time),(AV.str x_.kind),(AV.str x_.item),(AV.str x_.bl),(Zi x_.number)])] h= .ret (Zi (fD l_ x_)) h:=by
 have jN:=cc.small
 obtain ⟨h1,my,j0,F_,b7,tk⟩:=te bK (aw.cells [(Zi x_.time),(AV.str x_.kind),(AV.str x_.item),(AV.str x_.bl),(Zi x_.number)] 40 false)
 have iQ:Has h h1:=tk
 obtain ⟨yl2,h3,Uf,Ug,YX⟩:=nv (d:=d) (h:=h) bw l_ x_ h.nx cc F8.1 F8.2.1 F8.2.2 F8 l_.length 0 0 o! (fun k_=>((bw::(AV.agg [(Zi x_.time),(AV.str x_.kind),(AV.str x_.item),(AV.str x_.bl),(Zi x_.number)])::AV.undef::(Pt h.nx)::(Zi 0)::(Zi 0)::(Zi 0)::ck 15):List AV).getD k_ AV.undef) h1 j0 iQ b7
 have Qj:=Ug.y
 have acv:h1.nx≤h3.nx:=Ug.n
 have I0:Has h h3:=iQ.trans Ug.a
 have e:fD l_ x_=(eH l_ x_ l_.length 0 0):=by simp only[fD,ah,ae]
 rw[e]
 exact ar rfl (aE Tryz.func55 Jk rfl (.inr rfl) (pk (d) _ _ h _ h3 (NN my (fun i=>(Pt i))<|CN 3<|LL Uf<|CN 2<|ZZ) k!) k!) I0 rfl
def sr:Code:=(Tryz.f36.body).getD .skip
theorem Jl:Tryz.f36.body=some sr:=by kernel_rfl
def En:Code:=(bY sr).getD 0 .skip
def b6 (l_:List Fact) (o:List Fact):Nat→Nat→List Fact→List Fact→List Fact×List Fact
 | 0,_,eh,eW=>(eh,eW)
 | eX+1,i0,eh,eW=>(bif (decide ((fD (l_.take i0) (l_.g i0))<(fD o (l_.g i0)))) then b6 l_ o eX (i0+1) (eh++[(l_.g i0)]) eW else b6 l_ o eX (i0+1) eh (eW++[(l_.g i0)]))
theorem nw {d:Nat} {h:ag} (bw:AV) (oV:AV) (l_:List Fact) (o:List Fact) (aR:ax h bw l_) (eJ:ax h oV o) (jc:l_.length≤512) (bK:Tidy h):∀(k_ i_:Nat) (eh:List Fact) (eW:List Fact) (BX:AV) (BY:AV) (_:i_+k_=l_.length) (x:Nat→AV) (hh:ag) (aO:Tidy hh) (aF:Has h hh) (pa:h.nx≤hh.nx) (zU:ay h hh BX eh) (yd:∀y∈eh,au.ok hh y) (R':eh.length≤i_) (zV:ay h hh BY eW) (ye:∀y∈eW,au.ok hh y) (Sa:eW.length≤i_) (fE:gF BY BX),iL (σ:=List Fact×List Fact) (ζ:=AV×AV) (cC (d+1)) En ⟨(bw::oV::rx x 2 4 (BX::BY::(Zn i_)::rx x 9 37 [])),hh,[],.no⟩ (.exit 0) hh (fun r z y=>(bw::oV::rx y 2 4 (z.1::z.2::rx y 8 38 []))) (fun r z hk=>Has h hk∧ay h hk z.1 r.1∧(∀y∈r.1,au.ok hk y)∧r.1.length≤l_.length∧ay h hk z.2 r.2∧(∀y∈r.2,au.ok hk y)∧r.2.length≤l_.length∧gF z.2 z.1) (b6 l_ o k_ i_ eh eW)
 | 0,i0,eh,eW,BX,BY,nR,x,hh,aO,aF,pa,zU,yd,R',zV,ye,Sa,fE=>by
   have db:=aR.small
   have lg:=eJ.small
   have gB:cV (some (.slice 40)) (some bw)=some (Zn l_.length):=aR.len
   have q2:(decide (((i0:Nat):Int)<((l_.length:Nat):Int)))=false:=d!
   exact iL.out (eh,eW) (BX,BY) rfl (pk (d+1) _ _ hh _ hh (CN 2<|VV gB<|VV (bx 3 false false .i64 ((i0:Nat):Int) ((l_.length:Nat):Int))<|BB q2<|ZZ) k!) aO o! ⟨aF,zU,yd,(by first | omega | (simp<;>omega)),zV,ye,(by first | omega | (simp<;>omega)),fE⟩ k!
 | eX+1,i0,eh,eW,BX,BY,nR,x,hh,aO,aF,pa,zU,yd,R',zV,ye,Sa,fE=>by
   have db:=aR.small
   have lg:=eJ.small
   have gB:cV (some (.slice 40)) (some bw)=some (Zn l_.length):=aR.len
   have q2:(decide (((i0:Nat):Int)<((l_.length:Nat):Int)))=true:=d!
   obtain ⟨r3,abc,fr5⟩:=aR.pre (t:=22) k! (i:=i0) o!
   have YL:cK env 22 bw (none) (some (Zn i0)) (none)=some r3:=abc
   obtain ⟨p7,q8,XL⟩:=aR.elem (i:=i0) o!
   have U2:bP env (some (.slice 40)) (some bw) (some (Zn i0))=some (AV.ptr p7 q8):=XL
   have YY:bH env hh 40 (AV.ptr p7 q8)=some (AV.agg [(Zi (l_.g i0).time),(AV.str (l_.g i0).kind),(AV.str (l_.g i0).item),(AV.str (l_.g i0).bl),(Zi (l_.g i0).number)]):=(aR.has aF).load o! XL
   obtain ⟨p11,q12,Sb⟩:=aR.elem (i:=i0) o!
   have XM:bP env (some (.slice 40)) (some bw) (some (Zn i0))=some (AV.ptr p11 q12):=Sb
   have Jm:bH env hh 40 (AV.ptr p11 q12)=some (AV.agg [(Zi (l_.g i0).time),(AV.str (l_.g i0).kind),(AV.str (l_.g i0).item),(AV.str (l_.g i0).bl),(Zi (l_.g i0).number)]):=(aR.has aF).load o! Sb
   have YG:=zT (d:=d) (l_.take i0) (l_.g i0) (fr5.has aF) (au.mono aF (aR.ok (i:=i0) o!)) aO
   have Ob:=zT (d:=d) o (l_.g i0) (eJ.has aF) (au.mono aF (aR.ok (i:=i0) o!)) aO
   have U6:AV.same 20 (AV.agg [(Zi (l_.g i0).time),(AV.str (l_.g i0).kind),(AV.str (l_.g i0).item),(AV.str (l_.g i0).bl),(Zi (l_.g i0).number)]) (AV.agg [(Zi (l_.g i0).time),(AV.str (l_.g i0).kind),(AV.str (l_.g i0).item),(AV.str (l_.g i0).bl),(Zi (l_.g i0).number)])=true:=hU 18 (jT (fun n=>aL n _ _) (jT (fun n=>aK n _) (jT (fun n=>aK n _) (jT (fun n=>aK n _) (jT (fun n=>aL n _ _) Od)))))
   rcases Bool.eq_false_or_eq_true (decide ((fD (l_.take i0) (l_.g i0))<(fD o (l_.g i0)))) with f1 | f1
   · have fq:=of_decide_eq_true f1
     obtain ⟨XN,XO,Eo⟩:=aR.elem (i:=i0) o!
     have Ui:bP env (some (.slice 40)) (some bw) (some (Zn i0))=some (AV.ptr XN XO):=Eo
     have Uj:bH env hh 40 (AV.ptr XN XO)=some (AV.agg [(Zi (l_.g i0).time),(AV.str (l_.g i0).kind),(AV.str (l_.g i0).item),(AV.str (l_.g i0).bl),(Zi (l_.g i0).number)]):=(aR.has aF).load o! Eo
     obtain ⟨QG,NM,Ep,XP,NO,Er⟩:=te aO (aw.cells [(Zi (l_.g i0).time),(AV.str (l_.g i0).kind),(AV.str (l_.g i0).item),(AV.str (l_.g i0).bl),(Zi (l_.g i0).number)] 40 false)
     have Es:Has h QG:=aF.trans Er
     have lh:Has hh QG:=Er
     obtain ⟨z24,yj,GF,DE,XQ,NP,Uk,GG,GH⟩:=ay.LP (tys:= #[22,22]) (l:=eh) (m:=[(l_.g i0)]) (x:=(AV.slice hh.nx 0 1 1 false)) Ep bK Es o! (ay.has zU lh) rfl (m7 (x:=(l_.g i0)) NO) (by simp [au.c,Fact.c,AV.scalar]) (by first | omega | (simp<;>omega)) rfl rfl k! k! (bytes:=64) k! (z0:=(AV.agg [(Zi 0),(AV.str []),(AV.str []),(AV.str []),(Zi 0)])) k! rfl (by decide)
     have DF:Has h yj:=NP
     have Et:ay h yj BY eW:=ay.n6 (ay.has zV lh) (gF.symm fE) GG
     have Eu:=ay.apart (gF.symm fE) Ep (ay.has zV lh) GH
     have GI:∀y∈(eh++[(l_.g i0)]),au.ok yj y:=eM (D:=Fact) (Bh (eM (D:=Fact) (h':=QG) yd) (ok_one (au.mono Es (aR.ok (i:=i0) o!))))
     have Xc:=iD 3 false true i0 1 o!
     exact iL.round (by simp only[b6,f1,ah,ae]) (pk (d+1) _ _ hh _ yj (CN 2<|VV gB<|VV (bx 3 false false .i64 ((i0:Nat):Int) ((l_.length:Nat):Int))<|BB q2<|CN 2<|QQ YL<|CN 2<|VV U2<|MM YY<|CN 3<|VV XM<|MM Jm<|EE YG<|EE Ob<|VV (bx 3 false false .i64 (fD (l_.take i0) (l_.g i0)) (fD o (l_.g i0)))<|HH YY<|HH U6<|HH Jm<|HH U6<|HH Jm<|HH U6<|BB f1<|CN 3<|VV Ui<|MM Uj<|NN NM (fun i=>(AV.slice i 0 1 1 false))<|PP (show bp env QG #[22,22] BX (AV.slice hh.nx 0 1 1 false)=some (z24,yj) from GF)<|CN 2<|VV Xc<|CC<|ZZ) k!) o! _ k! (fun x=>nw bw oV l_ o aR eJ jc bK eX (i0+1) (eh++[(l_.g i0)]) eW z24 BY o! x yj DE DF o! Uk GI (by first | omega | (simp<;>omega)) Et (eM (D:=Fact) ye) (by first | omega | (simp<;>omega)) (gF.symm Eu))
   · have fq:=of_decide_eq_false f1
     obtain ⟨XN,XO,Eo⟩:=aR.elem (i:=i0) o!
     have Ui:bP env (some (.slice 40)) (some bw) (some (Zn i0))=some (AV.ptr XN XO):=Eo
     have Uj:bH env hh 40 (AV.ptr XN XO)=some (AV.agg [(Zi (l_.g i0).time),(AV.str (l_.g i0).kind),(AV.str (l_.g i0).item),(AV.str (l_.g i0).bl),(Zi (l_.g i0).number)]):=(aR.has aF).load o! Eo
     obtain ⟨QG,NM,Ep,XP,NO,Er⟩:=te aO (aw.cells [(Zi (l_.g i0).time),(AV.str (l_.g i0).kind),(AV.str (l_.g i0).item),(AV.str (l_.g i0).bl),(Zi (l_.g i0).number)] 40 false)
     have Es:Has h QG:=aF.trans Er
     have lh:Has hh QG:=Er
     obtain ⟨z24,yj,GF,DE,XQ,NP,Uk,GG,GH⟩:=ay.LP (tys:= #[22,22]) (l:=eW) (m:=[(l_.g i0)]) (x:=(AV.slice hh.nx 0 1 1 false)) Ep bK Es o! (ay.has zV lh) rfl (m7 (x:=(l_.g i0)) NO) (by simp [au.c,Fact.c,AV.scalar]) (by first | omega | (simp<;>omega)) rfl rfl k! k! (bytes:=64) k! (z0:=(AV.agg [(Zi 0),(AV.str []),(AV.str []),(AV.str []),(Zi 0)])) k! rfl (by decide)
     have DF:Has h yj:=NP
     have Ew:ay h yj BX eh:=ay.n6 (ay.has zU lh) fE GG
     have Ex:=ay.apart fE Ep (ay.has zU lh) GH
     have GI:∀y∈(eW++[(l_.g i0)]),au.ok yj y:=eM (D:=Fact) (Bh (eM (D:=Fact) (h':=QG) ye) (ok_one (au.mono Es (aR.ok (i:=i0) o!))))
     have Xc:=iD 3 false true i0 1 o!
     exact iL.round (by simp only[b6,f1,ah,ae]) (pk (d+1) _ _ hh _ yj (CN 2<|VV gB<|VV (bx 3 false false .i64 ((i0:Nat):Int) ((l_.length:Nat):Int))<|BB q2<|CN 2<|QQ YL<|CN 2<|VV U2<|MM YY<|CN 3<|VV XM<|MM Jm<|EE YG<|EE Ob<|VV (bx 3 false false .i64 (fD (l_.take i0) (l_.g i0)) (fD o (l_.g i0)))<|HH YY<|HH U6<|HH Jm<|HH U6<|HH Jm<|HH U6<|BB f1<|CN 3<|VV Ui<|MM Uj<|NN NM (fun i=>(AV.slice i 0 1 1 false))<|PP (show bp env QG #[22,22] BY (AV.slice hh.nx 0 1 1 false)=some (z24,yj) from GF)<|CN 2<|VV Xc<|CC<|ZZ) k!) o! _ k! (fun x=>nw bw oV l_ o aR eJ jc bK eX (i0+1) eh (eW++[(l_.g i0)]) BX z24 o! x yj DE DF o! Ew (eM (D:=Fact) yd) (by first | omega | (simp<;>omega)) Uk GI (by first | omega | (simp<;>omega)) Ex)
def cT (l_:List Fact) (o:List Fact):List Fact×List Fact:=((b6 l_ o l_.length 0 ([]:List Fact) ([]:List Fact)).1,(b6 l_ o l_.length 0 ([]:List Fact) ([]:List Fact)).2)
theorem zW {d:Nat} {h:ag} {bw oV:AV} (l_:List Fact) (o:List Fact) (cc:ax h bw l_) (Ul:ax h oV o) (F9:l_.length≤512) (bK:Tidy h):∃z0 z1 hk,cC (d+2) (.fn 36) [bw,oV] h= .ret (AV.tuple [z0,z1]) hk∧cf h hk∧(ax hk z0 ((cT l_ o).1)∧ay h hk z0 (cT l_ o).1)∧(ax hk z1 ((cT l_ o).2)∧ay h hk z1 (cT l_ o).2):=by
 have jN:=cc.small
 have XR:=Ul.small
 obtain ⟨⟨XS,XT⟩,yl1,h2,Um,th,aa9,XU,NQ,H5,abd,NR,H6,abe,JL⟩:=nw (d:=d) (h:=h) bw oV l_ o cc Ul o! bK l_.length 0 ([]:List Fact) ([]:List Fact) AV.aj AV.aj o! (fun k_=>((bw::oV::AV.undef::AV.undef::AV.aj::AV.aj::AV.aj::AV.aj::(Zi 0)::ck 37):List AV).getD k_ AV.undef) h bK (Has.refl _) o! (.inl ⟨.inl rfl,rfl⟩) (fun y hy=>by cases hy) (Nat.zero_le _) (.inl ⟨.inl rfl,rfl⟩) (fun y hy=>by cases hy) (Nat.zero_le _) (gF.nil _)
 have Un:ax h2 XS ((b6 l_ o l_.length 0 ([]:List Fact) ([]:List Fact)).1):=ay.rows NQ o! H5
 have YZ:=Un.small
 have Uo:ax h2 XT ((b6 l_ o l_.length 0 ([]:List Fact) ([]:List Fact)).2):=ay.rows NR o! H6
 have Y0:=Uo.small
 have qO:Has h h2:=XU
 have e:cT l_ o=((b6 l_ o l_.length 0 ([]:List Fact) ([]:List Fact)).1,(b6 l_ o l_.length 0 ([]:List Fact) ([]:List Fact)).2):=by simp only[cT,ah,ae]
 rw[e]
 have fB:ay h h2 XS ((b6 l_ o l_.length 0 ([]:List Fact) ([]:List Fact)).1):=ay.le (h0:=h) NQ o!
 have fC:ay h h2 XT ((b6 l_ o l_.length 0 ([]:List Fact) ([]:List Fact)).2):=ay.le (h0:=h) NR o!
 exact ⟨XS,XT,dB rfl (aE Tryz.func36 Jl rfl (.inr rfl) (pk (d+1) _ _ h _ h2 (CN 5<|LL Um<|CN 4<|ZZ) k!) k!) bK ⟨th,qO,by omega⟩ (P:=fun hh=>(ax hh XS ((b6 l_ o l_.length 0 ([]:List Fact) ([]:List Fact)).1)∧ay h hh XS (b6 l_ o l_.length 0 ([]:List Fact) ([]:List Fact)).1)∧(ax hh XT ((b6 l_ o l_.length 0 ([]:List Fact) ([]:List Fact)).2)∧ay h hh XT (b6 l_ o l_.length 0 ([]:List Fact) ([]:List Fact)).2)) ⟨⟨ay.rows fB (by first | omega | decide) H5,fB⟩,⟨ay.rows fC (by first | omega | decide) H6,fC⟩⟩ fun v=>⟨⟨ay.gS fB (bm v (by simp)),ay.gT fB (bm v (by simp))⟩,⟨ay.gS fC (bm v (by simp)),ay.gT fC (bm v (by simp))⟩⟩⟩
def BZ:Code:=(Tryz.f16.body).getD .skip
theorem tD:Tryz.f16.body=some BZ:=by kernel_rfl
def bA (a:List Fact) (b:List Fact):List Fact×List Fact×List Fact×Int:=(bif (decide ((ao a)=0)) then (bif (!decide ((ao b)=0)) then ([],[],[],(ao b)) else ((cT a b).1,(cT a b).2,(cT b a).2,0)) else ([],[],[],(ao a)))
theorem Jn {d:Nat} {h:ag} {aV bV:AV} (a:List Fact) (b:List Fact) (zP:ax h aV a) (zQ:ax h bV b) (bK:Tidy h):∃z0 z1 z2 hk,cC (d+3) (.fn 16) [aV,bV] h= .ret (AV.tuple [z0,z1,z2,(Zi (bA a b).2.2.2)]) hk∧cf h hk∧(ax hk z0 ((bA a b).1)∧ay h hk z0 (bA a b).1)∧(ax hk z1 ((bA a b).2.1)∧ay h hk z1 (bA a b).2.1)∧(ax hk z2 ((bA a b).2.2.1)∧ay h hk z2 (bA a b).2.2.1):=by
 have ND:=zP.small
 have NF:=zQ.small
 have k1:=ep (d:=d) a zP bK
 rcases Bool.eq_false_or_eq_true (decide ((ao a)=0)) with f0 | f0
 · have eg:=of_decide_eq_true f0
   have k3:=ep (d:=d) b zQ bK
   rcases Bool.eq_false_or_eq_true (!decide ((ao b)=0)) with f1 | f1
   · have fq:=uj f1
     have e:bA a b=([],[],[],(ao b)):=by simp only[bA,f0,f1,ah,ae]
     rw[e]
     have fB:ay h h AV.aj ([]:List Fact):= .inl ⟨.inl rfl,rfl⟩
     have fC:ay h h AV.aj ([]:List Fact):= .inl ⟨.inl rfl,rfl⟩
     have iM:ay h h AV.aj ([]:List Fact):= .inl ⟨.inl rfl,rfl⟩
     exact ⟨AV.aj,AV.aj,AV.aj,dB rfl (aE Tryz.func16 tD rfl (.inr rfl) (pk (d+2) _ _ h _ h (CN 5<|EE k1<|CN 2<|VV (ly 26 false true .i64 (ao a) 0)<|BC f0<|EE k3<|CN 2<|VV (bD 26 false true .i64 (ao b) 0)<|BB f1<|CN 5<|ZZ) k!) k!) bK ⟨bK,(Has.refl _),by omega⟩ (P:=fun hh=>(ax hh AV.aj ([]:List Fact)∧ay h hh AV.aj ([]:List Fact))∧(ax hh AV.aj ([]:List Fact)∧ay h hh AV.aj ([]:List Fact))∧(ax hh AV.aj ([]:List Fact)∧ay h hh AV.aj ([]:List Fact))) ⟨⟨ay.rows fB (by first | omega | decide) (fun y hy=>by cases hy),fB⟩,⟨ay.rows fC (by first | omega | decide) (fun y hy=>by cases hy),fC⟩,⟨ay.rows iM (by first | omega | decide) (fun y hy=>by cases hy),iM⟩⟩ fun v=>⟨⟨ay.gS fB (bm v (by simp)),ay.gT fB (bm v (by simp))⟩,⟨ay.gS fC (bm v (by simp)),ay.gT fC (bm v (by simp))⟩,⟨ay.gS iM (bm v (by simp)),ay.gT iM (bm v (by simp))⟩⟩⟩
   · have fq:=uk f1
     obtain ⟨z5,z7,h9,Ud,xP,⟨fz6,abf⟩,⟨fz8,abg⟩⟩:=zW (d:=d) a b zP zQ (by first | omega | assumption | exact gC (by assumption) | exact di (by assumption)) bK
     have o9:=xP.y
     have Qs:h.nx≤h9.nx:=xP.n
     have ng:Has h h9:=xP.a
     have abT:=fz6.small
     have abU:=fz8.small
     obtain ⟨Oj,z12,jz,NG,nI,⟨QC,R4⟩,⟨NH,NI⟩⟩:=zW (d:=d) b a (zQ.has ng) (zP.has ng) (by first | omega | assumption | exact gC (by assumption) | exact di (by assumption)) o9
     have nH:=nI.y
     have RX:h9.nx≤jz.nx:=nI.n
     have kI:Has h jz:=ng.trans nI.a
     have Ey:Has h9 jz:=nI.a
     have T':=QC.small
     have Ua:=NH.small
     have e:bA a b=((cT a b).1,(cT a b).2,(cT b a).2,0):=by simp only[bA,f0,f1,ah,ae]
     rw[e]
     have fB:ay h jz z5 ((cT a b).1):=ay.le (h0:=h) (abf.has Ey) o!
     have fC:ay h jz z7 ((cT a b).2):=ay.le (h0:=h) (abg.has Ey) o!
     have iM:ay h jz z12 ((cT b a).2):=ay.le (h0:=h) NI o!
     exact ⟨z5,z7,z12,dB rfl (aE Tryz.func16 tD rfl (.inr rfl) (pk (d+2) _ _ h _ jz (CN 5<|EE k1<|CN 2<|VV (ly 26 false true .i64 (ao a) 0)<|BC f0<|EE k3<|CN 2<|VV (bD 26 false true .i64 (ao b) 0)<|BB f1<|CN 2<|EE Ud<|CN 7<|EE NG<|CN 12<|ZZ) k!) k!) bK ⟨nH,kI,by omega⟩ (P:=fun hh=>(ax hh z5 ((cT a b).1)∧ay h hh z5 (cT a b).1)∧(ax hh z7 ((cT a b).2)∧ay h hh z7 (cT a b).2)∧(ax hh z12 ((cT b a).2)∧ay h hh z12 (cT b a).2)) ⟨⟨ay.rows fB (by first | omega | decide) (eM (D:=Fact) (fz6.P3)),fB⟩,⟨ay.rows fC (by first | omega | decide) (eM (D:=Fact) (fz8.P3)),fC⟩,⟨ay.rows iM (by first | omega | decide) (NH.P3),iM⟩⟩ fun v=>⟨⟨ay.gS fB (bm v (by simp)),ay.gT fB (bm v (by simp))⟩,⟨ay.gS fC (bm v (by simp)),ay.gT fC (bm v (by simp))⟩,⟨ay.gS iM (bm v (by simp)),ay.gT iM (bm v (by simp))⟩⟩⟩
 · have eg:=of_decide_eq_false f0
   have q3:(!decide ((ao a)=0))=true:=d!
   have e:bA a b=([],[],[],(ao a)):=by simp only[bA,f0,ah,ae]
   rw[e]
   have fB:ay h h AV.aj ([]:List Fact):= .inl ⟨.inl rfl,rfl⟩
   have fC:ay h h AV.aj ([]:List Fact):= .inl ⟨.inl rfl,rfl⟩
   have iM:ay h h AV.aj ([]:List Fact):= .inl ⟨.inl rfl,rfl⟩
   exact ⟨AV.aj,AV.aj,AV.aj,dB rfl (aE Tryz.func16 tD rfl (.inr rfl) (pk (d+2) _ _ h _ h (CN 5<|EE k1<|CN 2<|VV (ly 26 false true .i64 (ao a) 0)<|BC f0<|VV (bD 26 false true .i64 (ao a) 0)<|BB q3<|CN 5<|ZZ) k!) k!) bK ⟨bK,(Has.refl _),by omega⟩ (P:=fun hh=>(ax hh AV.aj ([]:List Fact)∧ay h hh AV.aj ([]:List Fact))∧(ax hh AV.aj ([]:List Fact)∧ay h hh AV.aj ([]:List Fact))∧(ax hh AV.aj ([]:List Fact)∧ay h hh AV.aj ([]:List Fact))) ⟨⟨ay.rows fB (by first | omega | decide) (fun y hy=>by cases hy),fB⟩,⟨ay.rows fC (by first | omega | decide) (fun y hy=>by cases hy),fC⟩,⟨ay.rows iM (by first | omega | decide) (fun y hy=>by cases hy),iM⟩⟩ fun v=>⟨⟨ay.gS fB (bm v (by simp)),ay.gT fB (bm v (by simp))⟩,⟨ay.gS fC (bm v (by simp)),ay.gT fC (bm v (by simp))⟩,⟨ay.gS iM (bm v (by simp)),ay.gT iM (bm v (by simp))⟩⟩⟩
def mC:Code:=(Tryz.f17.body).getD .skip
theorem l7:Tryz.f17.body=some mC:=by kernel_rfl
def uL:Code:=(bY mC).getD 0 .skip
def du (a:List Fact) (b:List Fact):Nat→Nat→Option (Bool)
 | 0,_=>none
 | eX+1,i0=>(bif (!Fact.eq (a.g i0) (b.g i0)) then some false else du a b eX (i0+1))
theorem jf {d:Nat} {h:ag} (aV:AV) (bV:AV) (a:List Fact) (b:List Fact) (aR:ax h aV a) (eJ:ax h bV b) (jc:a.length=b.length):∀(k_ i_:Nat) (_:i_+k_=a.length) (x:Nat→AV) (hh:ag) (aO:Tidy hh) (aF:Has h hh),aD (cC (d)) uL ⟨(aV::bV::rx x 2 3 ((Zn i_)::rx x 6 20 [])),hh,[],.no⟩ (.exit 0) hh (fun y=>(aV::bV::rx y 2 24 [])) (fun r y=>(aV::bV::(y 2)::(y 3)::(AV.bool r)::rx y 5 21 [])) (du a b k_ i_)
 | 0,i0,nR,x,hh,aO,aF=>by
   have db:=aR.small
   have lg:=eJ.small
   have gB:cV (some (.slice 40)) (some aV)=some (Zn a.length):=(aR.has aF).len
   have q2:(decide (((i0:Nat):Int)<((a.length:Nat):Int)))=false:=d!
   exact aD.out rfl (pk (d) _ _ hh _ hh (CN 2<|VV gB<|VV (bx 3 false false .i64 ((i0:Nat):Int) ((a.length:Nat):Int))<|BB q2<|ZZ) k!) (cf.refl aO) k!
 | eX+1,i0,nR,x,hh,aO,aF=>by
   have db:=aR.small
   have lg:=eJ.small
   have gB:cV (some (.slice 40)) (some aV)=some (Zn a.length):=(aR.has aF).len
   have q2:(decide (((i0:Nat):Int)<((a.length:Nat):Int)))=true:=d!
   obtain ⟨p4,q5,lf⟩:=(aR.has aF).elem (i:=i0) o!
   have ma:bP env (some (.slice 40)) (some aV) (some (Zn i0))=some (AV.ptr p4 q5):=lf
   have o_:bH env hh 40 (AV.ptr p4 q5)=some (AV.agg [(Zi (a.g i0).time),(AV.str (a.g i0).kind),(AV.str (a.g i0).item),(AV.str (a.g i0).bl),(Zi (a.g i0).number)]):=(aR.has aF).load o! lf
   obtain ⟨p8,q9,D8⟩:=(eJ.has aF).elem (i:=i0) o!
   have JG:bP env (some (.slice 40)) (some bV) (some (Zn i0))=some (AV.ptr p8 q9):=D8
   have pW:bH env hh 40 (AV.ptr p8 q9)=some (AV.agg [(Zi (b.g i0).time),(AV.str (b.g i0).kind),(AV.str (b.g i0).item),(AV.str (b.g i0).bl),(Zi (b.g i0).number)]):=(eJ.has aF).load o! D8
   have JF:aN env .neq 40 false false (some (AV.agg [(Zi (a.g i0).time),(AV.str (a.g i0).kind),(AV.str (a.g i0).item),(AV.str (a.g i0).bl),(Zi (a.g i0).number)])) (some (AV.agg [(Zi (b.g i0).time),(AV.str (b.g i0).kind),(AV.str (b.g i0).item),(AV.str (b.g i0).bl),(Zi (b.g i0).number)]))=some (AV.bool (!Fact.eq (a.g i0) (b.g i0))):=Fact.neq (a.g i0) (b.g i0)
   have RP:AV.same 20 (AV.agg [(Zi (a.g i0).time),(AV.str (a.g i0).kind),(AV.str (a.g i0).item),(AV.str (a.g i0).bl),(Zi (a.g i0).number)]) (AV.agg [(Zi (a.g i0).time),(AV.str (a.g i0).kind),(AV.str (a.g i0).item),(AV.str (a.g i0).bl),(Zi (a.g i0).number)])=true:=hU 18 (jT (fun n=>aL n _ _) (jT (fun n=>aK n _) (jT (fun n=>aK n _) (jT (fun n=>aK n _) (jT (fun n=>aL n _ _) Od)))))
   have Xj:AV.same 20 (AV.agg [(Zi (b.g i0).time),(AV.str (b.g i0).kind),(AV.str (b.g i0).item),(AV.str (b.g i0).bl),(Zi (b.g i0).number)]) (AV.agg [(Zi (b.g i0).time),(AV.str (b.g i0).kind),(AV.str (b.g i0).item),(AV.str (b.g i0).bl),(Zi (b.g i0).number)])=true:=hU 18 (jT (fun n=>aL n _ _) (jT (fun n=>aK n _) (jT (fun n=>aK n _) (jT (fun n=>aK n _) (jT (fun n=>aL n _ _) Od)))))
   rcases Bool.eq_false_or_eq_true (!Fact.eq (a.g i0) (b.g i0)) with f1 | f1
   · exact aD.ret false (by simp only[du,f1,ah,ae]) (pk (d) _ _ hh _ hh (CN 2<|VV gB<|VV (bx 3 false false .i64 ((i0:Nat):Int) ((a.length:Nat):Int))<|BB q2<|CN 2<|VV ma<|MM o_<|CN 2<|VV JG<|MM pW<|VV JF<|HH o_<|HH RP<|HH pW<|HH Xj<|BC f1<|ZZ) k!) (cf.refl aO) k!
   · have YO:=iD 3 false true i0 1 o!
     exact aD.round (by simp only[du,f1,ah,ae]) (pk (d) _ _ hh _ hh (CN 2<|VV gB<|VV (bx 3 false false .i64 ((i0:Nat):Int) ((a.length:Nat):Int))<|BB q2<|CN 2<|VV ma<|MM o_<|CN 2<|VV JG<|MM pW<|VV JF<|HH o_<|HH RP<|HH pW<|HH Xj<|BC f1<|VV YO<|CC<|ZZ) k!) (cf.refl aO) _ k! (fun x=>jf aV bV a b aR eJ jc eX (i0+1) o! x hh aO aF)
def bn (a:List Fact) (b:List Fact):Bool:=(bif (!decide (((a.length:Nat):Int)=((b.length:Nat):Int))) then false else (match (du a b a.length 0) with | none=>true | some Gb=>Gb))
theorem l8 {d:Nat} {h:ag} {aV bV:AV} (a:List Fact) (b:List Fact) (zP:ax h aV a) (zQ:ax h bV b) (bK:Tidy h):cC (d+1) (.fn 17) [aV,bV] h= .ret (AV.bool (bn a b)) h:=by
 have ND:=zP.small
 have NF:=zQ.small
 have gB:cV (some (.slice 40)) (some aV)=some (Zn a.length):=zP.len
 have QB:cV (some (.slice 40)) (some bV)=some (Zn b.length):=zQ.len
 rcases Bool.eq_false_or_eq_true (!decide (((a.length:Nat):Int)=((b.length:Nat):Int))) with f0 | f0
 · have eg:=uj f0
   have e:bn a b=false:=by simp only[bn,f0,ah,ae]
   rw[e]
   exact ar rfl (aE Tryz.func17 l7 rfl (.inr rfl) (pk (d) _ _ h _ h (CN 2<|VV gB<|CC<|VV QB<|VV (bD 3 false false .i64 ((a.length:Nat):Int) ((b.length:Nat):Int))<|BC f0<|ZZ) k!) k!) (Has.refl _) rfl
 · have eg:=uk f0
   cases ft:du a b a.length 0 with
   | none=>
     obtain ⟨RL,h5,gu,gv⟩:=aD.n ft (jf (d:=d) (h:=h) aV bV a b zP zQ o! a.length 0 o! (fun k_=>((aV::bV::AV.undef::AV.undef::(AV.bool false)::(Zi 0)::aV::(Zn a.length)::bV::(Zn b.length)::(AV.bool (!decide (((a.length:Nat):Int)=((b.length:Nat):Int))))::ck 15):List AV).getD k_ AV.undef) h bK (Has.refl _))
     have xJ:=gv.y
     have DY:h.nx≤h5.nx:=gv.n
     have o6:Has h h5:=gv.a
     have e:bn a b=true:=by simp only[bn,f0,ft,ah,ae]
     rw[e]
     exact ar rfl (aE Tryz.func17 l7 rfl (.inr rfl) (pk (d) _ _ h _ h5 (CN 2<|VV gB<|CC<|VV QB<|VV (bD 3 false false .i64 ((a.length:Nat):Int) ((b.length:Nat):Int))<|BC f0<|LL gu<|CC<|ZZ) k!) k!) o6 rfl
   | some Gb=>
     obtain ⟨RL,h5,gu,gv⟩:=aD.r ft (jf (d:=d) (h:=h) aV bV a b zP zQ o! a.length 0 o! (fun k_=>((aV::bV::AV.undef::AV.undef::(AV.bool false)::(Zi 0)::aV::(Zn a.length)::bV::(Zn b.length)::(AV.bool (!decide (((a.length:Nat):Int)=((b.length:Nat):Int))))::ck 15):List AV).getD k_ AV.undef) h bK (Has.refl _))
     have xJ:=gv.y
     have DY:h.nx≤h5.nx:=gv.n
     have o6:Has h h5:=gv.a
     have e:bn a b=Gb:=by simp only[bn,f0,ft,ah,ae]
     rw[e]
     exact ar rfl (aE Tryz.func17 l7 rfl (.inr rfl) (pk (d) _ _ h _ h5 (CN 2<|VV gB<|CC<|VV QB<|VV (bD 3 false false .i64 ((a.length:Nat):Int) ((b.length:Nat):Int))<|BC f0<|LL gu<|ZZ) k!) k!) o6 rfl
def ss:Code:=(Tryz.f7.body).getD .skip
theorem tE:Tryz.f7.body=some ss:=by kernel_rfl
def Ez:Code:=(bY ss).getD 0 .skip
def dS (l_:List Fact):Nat→Nat→List UInt8→List UInt8
 | 0,_,dt=>dt
 | eX+1,i0,dt=>dS l_ eX (i0+1) (dt++(cr (l_.g i0)))
theorem su {d:Nat} {h:ag} (bw:AV) (l_:List Fact) (aR:ax h bw l_) (jc:∀i,i<l_.length→TJ (l_.g i)) (tu:l_.length≤512):∀(k_ i_:Nat) (dt:List UInt8) (_:i_+k_=l_.length) (_:(List.length dt≤6000*i_)) (x:Nat→AV) (hh:ag) (aO:Tidy hh) (aF:Has h hh),dh (cC (d+22)) Ez ⟨(bw::rx x 1 4 ((AV.str dt)::(Zn i_)::rx x 7 22 [])),hh,[],.no⟩ (.exit 0) hh (fun r y=>(bw::rx y 1 4 ((AV.str r)::rx y 6 23 []))) (fun r=>(List.length r≤6000*l_.length)) (dS l_ k_ i_ dt)
 | 0,i0,dt,nR,Uc,x,hh,aO,aF=>by
   have db:=aR.small
   have gB:cV (some (.slice 40)) (some bw)=some (Zn l_.length):=(aR.has aF).len
   have q2:(decide (((i0:Nat):Int)<((l_.length:Nat):Int)))=false:=d!
   exact dh.out dt rfl (pk (d+22) _ _ hh _ hh (CN 2<|VV gB<|VV (bx 3 false false .i64 ((i0:Nat):Int) ((l_.length:Nat):Int))<|BB q2<|ZZ) k!) (cf.refl aO) (show (List.length dt≤6000*l_.length) from (by first | omega | (simp only[List.length_append,List.length_nil];omega))) k!
 | eX+1,i0,dt,nR,Uc,x,hh,aO,aF=>by
   have db:=aR.small
   have aC:i0<l_.length→TJ (l_.g i0):=jc i0
   have gB:cV (some (.slice 40)) (some bw)=some (Zn l_.length):=(aR.has aF).len
   have q2:(decide (((i0:Nat):Int)<((l_.length:Nat):Int)))=true:=d!
   obtain ⟨p4,q5,lf⟩:=(aR.has aF).elem (i:=i0) o!
   have ma:bP env (some (.slice 40)) (some bw) (some (Zn i0))=some (AV.ptr p4 q5):=lf
   have o_:bH env hh 40 (AV.ptr p4 q5)=some (AV.agg [(Zi (l_.g i0).time),(AV.str (l_.g i0).kind),(AV.str (l_.g i0).item),(AV.str (l_.g i0).bl),(Zi (l_.g i0).number)]):=(aR.has aF).load o! lf
   have abV:(cr (l_.g i0)).length≤6000:=xR (by first | omega | assumption | exact (aC o!).1 | exact (aC o!).2.1 | exact (aC o!).2.2.1 | exact (aC o!).2.2.2.1 | exact (aC o!).2.2.2.2.1 | exact (aC o!).2.2.2.2.2.1 | exact (aC o!).2.2.2.2.2.2) (by first | omega | assumption | exact (aC o!).1 | exact (aC o!).2.1 | exact (aC o!).2.2.1 | exact (aC o!).2.2.2.1 | exact (aC o!).2.2.2.2.1 | exact (aC o!).2.2.2.2.2.1 | exact (aC o!).2.2.2.2.2.2) (by first | omega | assumption | exact (aC o!).1 | exact (aC o!).2.1 | exact (aC o!).2.2.1 | exact (aC o!).2.2.2.1 | exact (aC o!).2.2.2.2.1 | exact (aC o!).2.2.2.2.2.1 | exact (aC o!).2.2.2.2.2.2)
   have k7:=DW (d:=d) (l_.g i0) ((aR.has aF).ok (i:=i0) o!) (by first | omega | assumption | exact (aC o!).1 | exact (aC o!).2.1 | exact (aC o!).2.2.1 | exact (aC o!).2.2.2.1 | exact (aC o!).2.2.2.2.1 | exact (aC o!).2.2.2.2.2.1 | exact (aC o!).2.2.2.2.2.2) (by first | omega | assumption | exact (aC o!).1 | exact (aC o!).2.1 | exact (aC o!).2.2.1 | exact (aC o!).2.2.2.1 | exact (aC o!).2.2.2.2.1 | exact (aC o!).2.2.2.2.2.1 | exact (aC o!).2.2.2.2.2.2) (by first | omega | assumption | exact (aC o!).1 | exact (aC o!).2.1 | exact (aC o!).2.2.1 | exact (aC o!).2.2.2.1 | exact (aC o!).2.2.2.2.1 | exact (aC o!).2.2.2.2.2.1 | exact (aC o!).2.2.2.2.2.2) (by first | omega | assumption | exact (aC o!).1 | exact (aC o!).2.1 | exact (aC o!).2.2.1 | exact (aC o!).2.2.2.1 | exact (aC o!).2.2.2.2.1 | exact (aC o!).2.2.2.2.2.1 | exact (aC o!).2.2.2.2.2.2) (by first | omega | assumption | exact (aC o!).1 | exact (aC o!).2.1 | exact (aC o!).2.2.1 | exact (aC o!).2.2.2.1 | exact (aC o!).2.2.2.2.1 | exact (aC o!).2.2.2.2.2.1 | exact (aC o!).2.2.2.2.2.2) (by first | omega | assumption | exact (aC o!).1 | exact (aC o!).2.1 | exact (aC o!).2.2.1 | exact (aC o!).2.2.2.1 | exact (aC o!).2.2.2.2.1 | exact (aC o!).2.2.2.2.2.1 | exact (aC o!).2.2.2.2.2.2) (by first | omega | assumption | exact (aC o!).1 | exact (aC o!).2.1 | exact (aC o!).2.2.1 | exact (aC o!).2.2.2.1 | exact (aC o!).2.2.2.2.1 | exact (aC o!).2.2.2.2.2.1 | exact (aC o!).2.2.2.2.2.2) aO
   have u8:=tj 9 false false dt (cr (l_.g i0)) (by first | omega | (simp only[List.length_append,List.length_cons,List.length_nil];omega) | (simp;omega))
   have u9:=iD 3 false true i0 1 o!
   exact dh.round (by simp only[dS,ah,ae]) (pk (d+22) _ _ hh _ hh (CN 2<|VV gB<|VV (bx 3 false false .i64 ((i0:Nat):Int) ((l_.length:Nat):Int))<|BB q2<|CN 3<|VV ma<|MM o_<|EE k7<|VV u8<|CN 2<|VV u9<|CC<|ZZ) k!) (cf.refl aO) _ k! (fun x=>su bw l_ aR jc tu eX (i0+1) (dt++(cr (l_.g i0))) o! (show (List.length (dt++(cr (l_.g i0)))≤6000*(i0+1)) from (by first | omega | (simp only[List.length_append,List.length_nil];omega))) x hh aO aF)
def aU (l_:List Fact):List UInt8×Int:=(bif (!decide ((ao l_)=0)) then ([],(ao l_)) else (bif (decide (65536<((List.length (dS l_ l_.length 0 ([])):Nat):Int))) then ([],3) else ((dS l_ l_.length 0 ([])),0)))
theorem Jo {d:Nat} {h:ag} {bw:AV} (l_:List Fact) (cc:ax h bw l_) (bK:Tidy h):cC (d+23) (.fn 7) [bw] h= .ret (AV.tuple [(AV.str (aU l_).1),(Zi (aU l_).2)]) h:=by
 have jN:=cc.small
 have k1:=ep (d:=d+20) l_ cc bK
 rcases Bool.eq_false_or_eq_true (!decide ((ao l_)=0)) with f0 | f0
 · have eg:=uj f0
   have e:aU l_=([],(ao l_)):=by simp only[aU,f0,ah,ae]
   rw[e]
   exact ar rfl (aE Tryz.func7 tE rfl (.inr rfl) (pk (d+22) _ _ h _ h (CN 3<|EE k1<|CN 2<|VV (bD 26 false true .i64 (ao l_) 0)<|BB f0<|CN 3<|ZZ) k!) k!) (Has.refl _) rfl
 · have eg:=uk f0
   obtain ⟨RU,h4,lW,qT,Y1⟩:=su (d:=d) (h:=h) bw l_ cc (jw (by assumption)) (di (by assumption)) l_.length 0 ([]) o! (show (List.length ([])≤6000*0) from (by first | omega | (simp only[List.length_append,List.length_nil];omega))) (fun k_=>((bw::AV.undef::(AV.str [])::(Zi 0)::(Zi (ao l_))::(AV.str [])::(Zi 0)::bw::(Zi (ao l_))::(Zi (ao l_))::(AV.bool (!decide ((ao l_)=0)))::ck 18):List AV).getD k_ AV.undef) h bK (Has.refl _)
   have Ga:=qT.y
   have Qu:h.nx≤h4.nx:=qT.n
   have uG:Has h h4:=qT.a
   rcases Bool.eq_false_or_eq_true (decide (65536<((List.length (dS l_ l_.length 0 ([])):Nat):Int))) with f1 | f1
   · have fq:=of_decide_eq_true f1
     have e:aU l_=([],3):=by simp only[aU,f0,f1,ah,ae]
     rw[e]
     exact ar rfl (aE Tryz.func7 tE rfl (.inr rfl) (pk (d+22) _ _ h _ h4 (CN 3<|EE k1<|CN 2<|VV (bD 26 false true .i64 (ao l_) 0)<|BB f0<|CN 2<|LL lW<|CN 2<|VV (cb 3 false true .i64 ((List.length (dS l_ l_.length 0 ([])):Nat):Int) 65536)<|BB f1<|CN 2<|ZZ) k!) k!) uG rfl
   · have fq:=of_decide_eq_false f1
     have e:aU l_=((dS l_ l_.length 0 ([])),0):=by simp only[aU,f0,f1,ah,ae]
     rw[e]
     exact ar rfl (aE Tryz.func7 tE rfl (.inr rfl) (pk (d+22) _ _ h _ h4 (CN 3<|EE k1<|CN 2<|VV (bD 26 false true .i64 (ao l_) 0)<|BB f0<|CN 2<|LL lW<|CN 2<|VV (cb 3 false true .i64 ((List.length (dS l_ l_.length 0 ([])):Nat):Int) 65536)<|BB f1<|CN 3<|ZZ) k!) k!) uG rfl
end
end Go.Proofs.aA
