import Derived.Test.YtjbgioidmaofiaaGreatDoorW0
import Derived.Test.YtjbgioidmaofiaaGreatDoorW3
namespace Go.Proofs.aA
open Go.Proofs Ab
noncomputable section
set_option maxRecDepth 100000
set_option maxHeartbeats 4000000
set_option linter.unusedVariables false
set_option linter.unusedSimpArgs false
def yL:Code:=(Tryz.f52.body).getD .skip
theorem xK:Tryz.f52.body=some yL:=by kernel_rfl
def fM (n:Int):Bool:=(bif (decide (0≤n)) then (decide (n≤100000)) else false)
theorem Ge {d:Nat} {h:ag} (n:Int) (bK:Tidy h):cC (d+1) (.fn 52) [(Zi n)] h= .ret (AV.bool (fM n)) h:=by
 rcases Bool.eq_false_or_eq_true (decide (0≤n)) with f0 | f0
 · have eg:=of_decide_eq_true f0
   have e:fM n=(decide (n≤100000)):=by simp only[fM,f0,ah,ae]
   rw[e]
   exact ar rfl (aE Tryz.func52 xK rfl (.inr rfl) (pk (d) _ _ h _ h (CN 2<|VV (cR 3 false true .i64 n 0)<|CC<|BC f0<|BV f0 (tc 3 false true .i64 n 100000)<|VV (nG (decide (n≤100000)) false f0)<|CC<|ZZ) k!) k!) (Has.refl _) rfl
 · have eg:=of_decide_eq_false f0
   have e:fM n=false:=by simp only[fM,f0,ah,ae]
   rw[e]
   exact ar rfl (aE Tryz.func52 xK rfl (.inr rfl) (pk (d) _ _ h _ h (CN 2<|VV (cR 3 false true .i64 n 0)<|CC<|BB f0<|BV f0 (Bf false f0)<|CC<|ZZ) k!) k!) (Has.refl _) rfl
def tq:Code:=(Tryz.f29.body).getD .skip
theorem dL:Tryz.f29.body=some tq:=by kernel_rfl
def aY (ai:List Fact) (f:Fact):Int:=(bif (!(fM f.time)) then 1 else (bif (!(dC f.number)) then 1 else (bif (!(cg f.kind)) then 5 else (bif (!(cg f.item)) then 5 else (bif (!(cg f.bl)) then 5 else (bif (decide (0<((ai.length:Nat):Int))) then (bif (decide (f.time<((ai.g (ai.length - 1)).time))) then 8 else 0) else 0))))))
theorem yM {d:Nat} {h:ag} {xL:AV} (ai:List Fact) (f:Fact) (r5:ax h xL ai) (UZ:au.ok h f) (bK:Tidy h):cC (d+2) (.fn 29) [xL,(AV.agg [(Zi f.time),(AV.str f.kind),(AV.str f.item),(AV.str f.bl),(Zi f.number)])] h= .ret (Zi (aY ai f)) h:=by
 have U1:=r5.small
 obtain ⟨h1,my,j0,F_,b7,tk⟩:=te bK (aw.cells [(Zi f.time),(AV.str f.kind),(AV.str f.item),(AV.str f.bl),(Zi f.number)] 40 false)
 have iQ:Has h h1:=tk
 have k2:=Ge (d:=d) f.time j0
 rcases Bool.eq_false_or_eq_true (!(fM f.time)) with f0 | f0
 · have e:aY ai f=1:=by simp only[aY,f0,ah,ae]
   rw[e]
   exact ar rfl (aE Tryz.func29 dL rfl (.inr rfl) (pk (d+1) _ _ h _ h1 (NN my (fun i=>(Pt i))<|CN 2<|MM (aX 3 0 (Zi f.time) b7 k!)<|EE k2<|CN 2<|BB f0<|BC f0<|ZZ) k!) k!) iQ rfl
 · have k4:=Bu (d:=d) f.number j0
   rcases Bool.eq_false_or_eq_true (!(dC f.number)) with f1 | f1
   · have e:aY ai f=1:=by simp only[aY,f0,f1,ah,ae]
     rw[e]
     exact ar rfl (aE Tryz.func29 dL rfl (.inr rfl) (pk (d+1) _ _ h _ h1 (NN my (fun i=>(Pt i))<|CN 2<|MM (aX 3 0 (Zi f.time) b7 k!)<|EE k2<|CN 2<|BC f0<|MM (aX 2 4 (Zi f.number) b7 k!)<|EE k4<|CN 2<|BC f1<|ZZ) k!) k!) iQ rfl
   · have k6:=qQ (d:=d) f.kind UZ.1 j0
     rcases Bool.eq_false_or_eq_true (!(cg f.kind)) with f2 | f2
     · have e:aY ai f=5:=by simp only[aY,f0,f1,f2,ah,ae]
       rw[e]
       exact ar rfl (aE Tryz.func29 dL rfl (.inr rfl) (pk (d+1) _ _ h _ h1 (NN my (fun i=>(Pt i))<|CN 2<|MM (aX 3 0 (Zi f.time) b7 k!)<|EE k2<|CN 2<|BC f0<|MM (aX 2 4 (Zi f.number) b7 k!)<|EE k4<|CN 2<|BC f1<|MM (aX 9 1 (AV.str f.kind) b7 k!)<|EE k6<|CN 2<|BB f2<|BC f2<|ZZ) k!) k!) iQ rfl
     · have k8:=qQ (d:=d) f.item UZ.2.1 j0
       rcases Bool.eq_false_or_eq_true (!(cg f.item)) with f3 | f3
       · have e:aY ai f=5:=by simp only[aY,f0,f1,f2,f3,ah,ae]
         rw[e]
         exact ar rfl (aE Tryz.func29 dL rfl (.inr rfl) (pk (d+1) _ _ h _ h1 (NN my (fun i=>(Pt i))<|CN 2<|MM (aX 3 0 (Zi f.time) b7 k!)<|EE k2<|CN 2<|BC f0<|MM (aX 2 4 (Zi f.number) b7 k!)<|EE k4<|CN 2<|BC f1<|MM (aX 9 1 (AV.str f.kind) b7 k!)<|EE k6<|CN 2<|BC f2<|MM (aX 9 2 (AV.str f.item) b7 k!)<|EE k8<|CN 2<|BB f3<|BC f3<|ZZ) k!) k!) iQ rfl
       · have yE:=qQ (d:=d) f.bl UZ.2.2 j0
         rcases Bool.eq_false_or_eq_true (!(cg f.bl)) with f4 | f4
         · have e:aY ai f=5:=by simp only[aY,f0,f1,f2,f3,f4,ah,ae]
           rw[e]
           exact ar rfl (aE Tryz.func29 dL rfl (.inr rfl) (pk (d+1) _ _ h _ h1 (NN my (fun i=>(Pt i))<|CN 2<|MM (aX 3 0 (Zi f.time) b7 k!)<|EE k2<|CN 2<|BC f0<|MM (aX 2 4 (Zi f.number) b7 k!)<|EE k4<|CN 2<|BC f1<|MM (aX 9 1 (AV.str f.kind) b7 k!)<|EE k6<|CN 2<|BC f2<|MM (aX 9 2 (AV.str f.item) b7 k!)<|EE k8<|CN 2<|BC f3<|MM (aX 9 3 (AV.str f.bl) b7 k!)<|EE yE<|CN 2<|BC f4<|ZZ) k!) k!) iQ rfl
         · have TG:cV (some (.slice 40)) (some xL)=some (Zn ai.length):=r5.len
           rcases Bool.eq_false_or_eq_true (decide (0<((ai.length:Nat):Int))) with f5 | f5
           · have Ni:=of_decide_eq_true f5
             have W9:cV (some (.slice 40)) (some xL)=some (Zn ai.length):=r5.len
             have YO:=Wd 3 false true ai.length 1 o! o!
             obtain ⟨p17,q18,RO⟩:=r5.elem (i:=(ai.length - 1)) o!
             have yH:bP env (some (.slice 40)) (some xL) (some (Zn (ai.length - 1)))=some (AV.ptr p17 q18):=RO
             have Qp:bH env h1 3 (AV.ptr p17 (q18+0))=some (Zi (ai.g (ai.length - 1)).time):=(r5.has iQ).part (t:=3) (j:=0) o! RO k! rfl
             rcases Bool.eq_false_or_eq_true (decide (f.time<((ai.g (ai.length - 1)).time))) with f6 | f6
             · have Nj:=of_decide_eq_true f6
               have e:aY ai f=8:=by simp only[aY,f0,f1,f2,f3,f4,f5,f6,ah,ae]
               rw[e]
               exact ar rfl (aE Tryz.func29 dL rfl (.inr rfl) (pk (d+1) _ _ h _ h1 (NN my (fun i=>(Pt i))<|CN 2<|MM (aX 3 0 (Zi f.time) b7 k!)<|EE k2<|CN 2<|BC f0<|MM (aX 2 4 (Zi f.number) b7 k!)<|EE k4<|CN 2<|BC f1<|MM (aX 9 1 (AV.str f.kind) b7 k!)<|EE k6<|CN 2<|BC f2<|MM (aX 9 2 (AV.str f.item) b7 k!)<|EE k8<|CN 2<|BC f3<|MM (aX 9 3 (AV.str f.bl) b7 k!)<|EE yE<|CN 2<|BC f4<|VV TG<|VV (cb 3 false true .i64 ((ai.length:Nat):Int) 0)<|CC<|BC f5<|BC f5<|BV f5 W9<|BV f5 YO<|BV f5 yH<|BC f5<|BM f5 Qp<|BC f5<|BM f5 (aX 3 0 (Zi f.time) b7 k!)<|BV f5 (cb 3 false false .i64 (ai.g (ai.length - 1)).time f.time)<|VV (nG (decide (f.time<((ai.g (ai.length - 1)).time))) false f5)<|CC<|HH Qp<|HH (show AV.same 20 (Zi (ai.g (ai.length - 1)).time) (Zi (ai.g (ai.length - 1)).time)=true from aL 19 _ _)<|HH (aX 3 0 (Zi f.time) b7 k!)<|HH (show AV.same 20 (Zi f.time) (Zi f.time)=true from aL 19 _ _)<|BC f6<|ZZ) k!) k!) iQ rfl
             · have Nj:=of_decide_eq_false f6
               have e:aY ai f=0:=by simp only[aY,f0,f1,f2,f3,f4,f5,f6,ah,ae]
               rw[e]
               exact ar rfl (aE Tryz.func29 dL rfl (.inr rfl) (pk (d+1) _ _ h _ h1 (NN my (fun i=>(Pt i))<|CN 2<|MM (aX 3 0 (Zi f.time) b7 k!)<|EE k2<|CN 2<|BC f0<|MM (aX 2 4 (Zi f.number) b7 k!)<|EE k4<|CN 2<|BC f1<|MM (aX 9 1 (AV.str f.kind) b7 k!)<|EE k6<|CN 2<|BC f2<|MM (aX 9 2 (AV.str f.item) b7 k!)<|EE k8<|CN 2<|BC f3<|MM (aX 9 3 (AV.str f.bl) b7 k!)<|EE yE<|CN 2<|BC f4<|VV TG<|VV (cb 3 false true .i64 ((ai.length:Nat):Int) 0)<|CC<|BC f5<|BC f5<|BV f5 W9<|BV f5 YO<|BV f5 yH<|BC f5<|BM f5 Qp<|BC f5<|BM f5 (aX 3 0 (Zi f.time) b7 k!)<|BV f5 (cb 3 false false .i64 (ai.g (ai.length - 1)).time f.time)<|VV (nG (decide (f.time<((ai.g (ai.length - 1)).time))) false f5)<|CC<|HH Qp<|HH (show AV.same 20 (Zi (ai.g (ai.length - 1)).time) (Zi (ai.g (ai.length - 1)).time)=true from aL 19 _ _)<|HH (aX 3 0 (Zi f.time) b7 k!)<|HH (show AV.same 20 (Zi f.time) (Zi f.time)=true from aL 19 _ _)<|BC f6<|ZZ) k!) k!) iQ rfl
           · have Ni:=of_decide_eq_false f5
             have e:aY ai f=0:=by simp only[aY,f0,f1,f2,f3,f4,f5,ah,ae]
             rw[e]
             exact ar rfl (aE Tryz.func29 dL rfl (.inr rfl) (pk (d+1) _ _ h _ h1 (NN my (fun i=>(Pt i))<|CN 2<|MM (aX 3 0 (Zi f.time) b7 k!)<|EE k2<|CN 2<|BC f0<|MM (aX 2 4 (Zi f.number) b7 k!)<|EE k4<|CN 2<|BC f1<|MM (aX 9 1 (AV.str f.kind) b7 k!)<|EE k6<|CN 2<|BC f2<|MM (aX 9 2 (AV.str f.item) b7 k!)<|EE k8<|CN 2<|BC f3<|MM (aX 9 3 (AV.str f.bl) b7 k!)<|EE yE<|CN 2<|BC f4<|VV TG<|VV (cb 3 false true .i64 ((ai.length:Nat):Int) 0)<|CC<|BB f5<|BB f5<|BB f5<|BB f5<|BB f5<|BB f5<|BB f5<|BB f5<|BB f5<|BV f5 (Bf false f5)<|CC<|FF<|CC<|ZZ) k!) k!) iQ rfl
def jv:Code:=(Tryz.f28.body).getD .skip
theorem iK:Tryz.f28.body=some jv:=by kernel_rfl
def pV:Code:=(bY jv).getD 0 .skip
def bj (P:Nat→Int) (eF:List Fact):Nat→Nat→Option (Int)
 | 0,_=>none
 | eX+1,i0=>(bif (!decide ((P i0)=0)) then some (P i0) else bj P eF eX (i0+1))
theorem gz {d:Nat} {h:ag} (gA:AV) (g:FuncId) (cap:List AV) (eF:List Fact) (P:Nat→Int) (aR:ax h gA eF) (hP:∀j,j<eF.length→∀aV hh,Tidy hh→Has h hh→ax hh aV (eF.take j)→cC d (.fn g) (aV:: .agg (au.c (eF.g j))::cap) hh= .ret (.int .i64 (P j)) hh):∀(k_ i_:Nat) (_:i_+k_=eF.length) (x:Nat→AV) (hh:ag) (aO:Tidy hh) (aF:Has h hh),aD (cC (d)) pV ⟨(gA::(x 1)::(AV.func g [] cap)::rx x 3 11 (gA::(Zn eF.length)::(Zn i_)::rx x 17 14 [])),hh,[],.no⟩ (.exit 0) hh (fun y=>(gA::(y 1)::(AV.func g [] cap)::rx y 3 11 (gA::(Zn eF.length)::rx y 16 15 []))) (fun r y=>(gA::(y 1)::(AV.func g [] cap)::rx y 3 3 ((Zi r)::rx y 7 7 (gA::(Zn eF.length)::rx y 16 15 [])))) (bj P eF k_ i_)
 | 0,i0,nR,x,hh,aO,aF=>by
   have db:=aR.small
   have q1:(decide (((i0:Nat):Int)<((eF.length:Nat):Int)))=false:=d!
   exact aD.out rfl (pk (d) _ _ hh _ hh (VV (bx 3 false false .i64 ((i0:Nat):Int) ((eF.length:Nat):Int))<|BB q1<|ZZ) k!) (cf.refl aO) k!
 | eX+1,i0,nR,x,hh,aO,aF=>by
   have db:=aR.small
   have q1:(decide (((i0:Nat):Int)<((eF.length:Nat):Int)))=true:=d!
   obtain ⟨p3,q4,o7⟩:=(aR.has aF).elem (i:=i0) o!
   have yK:bP env (some (.slice 40)) (some gA) (some (Zn i0))=some (AV.ptr p3 q4):=o7
   have HQ:bH env hh 40 (AV.ptr p3 q4)=some (AV.agg [(Zi (eF.g i0).time),(AV.str (eF.g i0).kind),(AV.str (eF.g i0).item),(AV.str (eF.g i0).bl),(Zi (eF.g i0).number)]):=(aR.has aF).load o! o7
   obtain ⟨h6,r6,mr,F5,qL,jL⟩:=te aO (aw.cells [(Zi 0),(AV.str []),(AV.str []),(AV.str []),(Zi 0)] 40 false)
   have mu:Has hh h6:=jL
   obtain ⟨h7,r7,jJ,F6,jM,fN⟩:=FW (t:=40) (n:=5) (i:=hh.nx) (L:=[(Zi (eF.g i0).time),(AV.str (eF.g i0).kind),(AV.str (eF.g i0).item),(AV.str (eF.g i0).bl),(Zi (eF.g i0).number)]) mr qL k! rfl rfl (by simp only[AV.cells,List.all_cons,List.all_nil,Bool.and_true,Bool.and_self,qF,m3,qG,qH,kC,wc,we,wg,wh,wi,qI])
   have hX:Has hh h7:=Has.iE mu fN aO o!
   obtain ⟨r8,aaJ,aaK⟩:=(aR.has aF).pre (t:=22) k! (i:=i0) o!
   have YM:cK env 22 gA (none) (some (Zn i0)) (none)=some r8:=aaJ
   have Be:=hP i0 o! r8 h7 jJ (aF.trans hX) (aaK.has hX)
   have RP:AV.same 20 (AV.agg [(Zi (eF.g i0).time),(AV.str (eF.g i0).kind),(AV.str (eF.g i0).item),(AV.str (eF.g i0).bl),(Zi (eF.g i0).number)]) (AV.agg [(Zi (eF.g i0).time),(AV.str (eF.g i0).kind),(AV.str (eF.g i0).item),(AV.str (eF.g i0).bl),(Zi (eF.g i0).number)])=true:=hU 18 (jT (fun n=>aL n _ _) (jT (fun n=>aK n _) (jT (fun n=>aK n _) (jT (fun n=>aK n _) (jT (fun n=>aL n _ _) Od)))))
   rcases Bool.eq_false_or_eq_true (!decide ((P i0)=0)) with f1 | f1
   · have fq:=uj f1
     exact aD.ret (P i0) (by simp only[bj,f1,ah,ae]) (pk (d) _ _ hh _ h7 (VV (bx 3 false false .i64 ((i0:Nat):Int) ((eF.length:Nat):Int))<|BC q1<|VV yK<|MM HQ<|NN r6 (fun i=>(Pt i))<|CC<|SS r7<|CN 3<|QQ YM<|MM (aX 40 0 (AV.agg [(Zi (eF.g i0).time),(AV.str (eF.g i0).kind),(AV.str (eF.g i0).item),(AV.str (eF.g i0).bl),(Zi (eF.g i0).number)]) jM k!)<|EE Be<|CC<|HH (aX 40 0 (AV.agg [(Zi (eF.g i0).time),(AV.str (eF.g i0).kind),(AV.str (eF.g i0).item),(AV.str (eF.g i0).bl),(Zi (eF.g i0).number)]) jM k!)<|HH RP<|CC<|VV (bD 26 false true .i64 (P i0) 0)<|BB f1<|CN 2<|ZZ) k!) (⟨jJ,hX,by omega⟩) k!
   · have fq:=uk f1
     have u14:=iD 3 false true i0 1 o!
     exact aD.round (by simp only[bj,f1,ah,ae]) (pk (d) _ _ hh _ h7 (VV (bx 3 false false .i64 ((i0:Nat):Int) ((eF.length:Nat):Int))<|BC q1<|VV yK<|MM HQ<|NN r6 (fun i=>(Pt i))<|CC<|SS r7<|CN 3<|QQ YM<|MM (aX 40 0 (AV.agg [(Zi (eF.g i0).time),(AV.str (eF.g i0).kind),(AV.str (eF.g i0).item),(AV.str (eF.g i0).bl),(Zi (eF.g i0).number)]) jM k!)<|EE Be<|CC<|HH (aX 40 0 (AV.agg [(Zi (eF.g i0).time),(AV.str (eF.g i0).kind),(AV.str (eF.g i0).item),(AV.str (eF.g i0).bl),(Zi (eF.g i0).number)]) jM k!)<|HH RP<|CC<|VV (bD 26 false true .i64 (P i0) 0)<|BV f1 u14<|CC<|ZZ) k!) (⟨jJ,hX,by omega⟩) _ k! (fun x=>gz gA g cap eF P aR hP eX (i0+1) o! x h7 jJ (aF.trans hX))
def b9 (eF:List Fact) (o8:Int) (P:Nat→Int):Int:=(bif (decide (o8<((eF.length:Nat):Int))) then 3 else (match (bj P eF eF.length 0) with | none=>0 | some Gb=>Gb))
theorem r9 {d:Nat} {h:ag} {gA:AV} {g:FuncId} {cap:List AV} (eF:List Fact) (o8:Int) (P:Nat→Int) (xM:ax h gA eF) (hP:∀j,j<eF.length→∀aV hh,Tidy hh→Has h hh→ax hh aV (eF.take j)→cC d (.fn g) (aV:: .agg (au.c (eF.g j))::cap) hh= .ret (.int .i64 (P j)) hh) (bK:Tidy h):cC (d+1) (.fn 28) [gA,(Zi o8),(AV.func g [] cap)] h= .ret (Zi (b9 eF o8 P)) h:=by
 have W_:=xM.small
 have gB:cV (some (.slice 40)) (some gA)=some (Zn eF.length):=xM.len
 rcases Bool.eq_false_or_eq_true (decide (o8<((eF.length:Nat):Int))) with f0 | f0
 · have eg:=of_decide_eq_true f0
   have e:b9 eF o8 P=3:=by simp only[b9,f0,ah,ae]
   rw[e]
   exact ar rfl (aE Tryz.func28 iK rfl (.inr rfl) (pk (d) _ _ h _ h (CN 2<|VV gB<|CC<|VV (cb 3 false false .i64 ((eF.length:Nat):Int) o8)<|BC f0<|ZZ) k!) k!) (Has.refl _) rfl
 · have eg:=of_decide_eq_false f0
   have Bx:cV (some (.slice 40)) (some gA)=some (Zn eF.length):=xM.len
   cases ft:bj P eF eF.length 0 with
   | none=>
     obtain ⟨RL,h5,gu,gv⟩:=aD.n ft (gz (d:=d) (h:=h) gA g cap eF P xM hP eF.length 0 o! (fun k_=>((gA::(Zi o8)::(AV.func g [] cap)::AV.undef::AV.undef::AV.undef::(Zi 0)::AV.undef::AV.undef::AV.undef::gA::(Zn eF.length)::(Zi o8)::(AV.bool (decide (o8<((eF.length:Nat):Int))))::gA::(Zn eF.length)::(Zi 0)::ck 14):List AV).getD k_ AV.undef) h bK (Has.refl _))
     have xJ:=gv.y
     have DY:h.nx≤h5.nx:=gv.n
     have o6:Has h h5:=gv.a
     have e:b9 eF o8 P=0:=by simp only[b9,f0,ft,ah,ae]
     rw[e]
     exact ar rfl (aE Tryz.func28 iK rfl (.inr rfl) (pk (d) _ _ h _ h5 (CN 2<|VV gB<|CC<|VV (cb 3 false false .i64 ((eF.length:Nat):Int) o8)<|BC f0<|VV Bx<|CC<|LL gu<|CC<|ZZ) k!) k!) o6 rfl
   | some Gb=>
     obtain ⟨RL,h5,gu,gv⟩:=aD.r ft (gz (d:=d) (h:=h) gA g cap eF P xM hP eF.length 0 o! (fun k_=>((gA::(Zi o8)::(AV.func g [] cap)::AV.undef::AV.undef::AV.undef::(Zi 0)::AV.undef::AV.undef::AV.undef::gA::(Zn eF.length)::(Zi o8)::(AV.bool (decide (o8<((eF.length:Nat):Int))))::gA::(Zn eF.length)::(Zi 0)::ck 14):List AV).getD k_ AV.undef) h bK (Has.refl _))
     have xJ:=gv.y
     have DY:h.nx≤h5.nx:=gv.n
     have o6:Has h h5:=gv.a
     have e:b9 eF o8 P=Gb:=by simp only[b9,f0,ft,ah,ae]
     rw[e]
     exact ar rfl (aE Tryz.func28 iK rfl (.inr rfl) (pk (d) _ _ h _ h5 (CN 2<|VV gB<|CC<|VV (cb 3 false false .i64 ((eF.length:Nat):Int) o8)<|BC f0<|VV Bx<|CC<|LL gu<|ZZ) k!) k!) o6 rfl
def qR:Code:=(Tryz.f8.body).getD .skip
theorem uI:Tryz.f8.body=some qR:=by kernel_rfl
def af (l_:List Fact):Int:=(b9 l_ 512 (fun jx=>aY (List.take jx l_) (List.g l_ jx)))
theorem ek {d:Nat} {h:ag} {bw:AV} (l_:List Fact) (cc:ax h bw l_) (bK:Tidy h):cC (d+4) (.fn 8) [bw] h= .ret (Zi (af l_)) h:=by
 have jN:=cc.small
 have k1:=r9 (d:=d+2) l_ 512 (fun jx=>aY (List.take jx l_) (List.g l_ jx)) cc (fun jx hj aV hh yy aa fa=>yM (d:=d) (List.take jx l_) (List.g l_ jx) fa (au.mono aa (cc.ok hj)) yy) bK
 have e:af l_=(b9 l_ 512 (fun jx=>aY (List.take jx l_) (List.g l_ jx))):=by simp only[af,ah,ae]
 rw[e]
 exact ar rfl (aE Tryz.func8 uI rfl (.inr rfl) (pk (d+3) _ _ h _ h (CN 2<|EE k1<|CC<|ZZ) k!) k!) (Has.refl _) rfl
theorem Gh {P:Nat→Int} {l:List Fact}:∀{k i:Nat},bj P l k i=none↔∀j,i≤j→j<i+k→P j=0
 | 0,i=>⟨fun _ j p q=>by omega,fun _=>rfl⟩
 | k+1,i=>by
   rw[bj]
   by_cases e:P i=0
   · rw[decide_eq_true e]
     show bj P l k (i+1)=none↔_
     rw[Gh (k:=k) (i:=i+1)]
     refine ⟨fun h j p q=>?_,fun h j p q=>h j o! o!⟩
     by_cases z:j=i
     · rw[z];exact e
     · exact h j o! o!
   · rw[decide_eq_false e]
     exact ⟨fun h=>(by cases h),fun h=>absurd (h i (Nat.le_refl _) o!) e⟩
theorem HR {P:Nat→Int} {l:List Fact}:∀{k i:Nat} {r:Int},bj P l k i=some r→r≠0
 | 0,i,r,h=>by cases h
 | k+1,i,r,h=>by
   rw[bj] at h
   by_cases e:P i=0
   · rw[decide_eq_true e] at h;exact HR (k:=k) h
   · rw[decide_eq_false e] at h;cases h;exact e
theorem xN {l:List Fact}:af l=0↔l.length≤512∧∀i,i<l.length→aY (l.take i) (l.g i)=0:=by
 rw[af,b9]
 by_cases a:(512:Int)<((l.length:Nat):Int)
 · rw[decide_eq_true a]
   exact ⟨fun h=>(by cases h),fun h=>by omega⟩
 · rw[decide_eq_false a,ae]
   cases e:bj (fun jx=>aY (List.take jx l) (List.g l jx)) l l.length 0 with
   | none=>exact ⟨fun _=>⟨by omega,fun i hi=>Gh.1 e i (Nat.zero_le _) o!⟩,fun _=>rfl⟩
   | some r=>
     refine ⟨fun h=>absurd h (HR e),fun h=>?_⟩
     have:=(Gh (P:=fun jx=>aY (List.take jx l) (List.g l jx)) (l:=l) (k:=l.length) (i:=0)).2 fun j _ q=>h.2 j o!
     rw[this] at e;cases e
theorem qS {t:List UInt8} (h:cg t=true):t.length≤16∧t≠ []:=by
 rw[cg] at h
 by_cases a:t=[]
 · rw[decide_eq_true a] at h;cases h
 · rw[decide_eq_false a,ae] at h
   by_cases b:(16:Int)<((List.length t:Nat):Int)
   · rw[decide_eq_true b] at h;cases h
   · exact ⟨by omega,a⟩
theorem Gi {n:Int}:fM n=true↔0≤n∧n≤100000:=by
 rw[fM]
 by_cases a:0≤n
 · rw[decide_eq_true a,ah];simp [a]
 · rw[decide_eq_false a,ae];simp [a]
theorem By {n:Int}:dC n=true↔-1000000000000≤n∧n≤1000000000000:=by
 rw[dC]
 by_cases a:(-1000000000000:Int)≤n
 · rw[decide_eq_true a,ah];simp [a]
 · rw[decide_eq_false a,ae];simp [a]
theorem yN {a:List Fact} {f:Fact}:aY a f=0↔fM f.time=true∧dC f.number=true∧cg f.kind=true∧cg f.item=true∧cg f.bl=true∧(0<a.length→(a.g (a.length - 1)).time≤f.time):=by
 rw[aY]
 cases fM f.time<;>cases dC f.number<;>cases cg f.kind<;>cases cg f.item<;>cases cg f.bl<;>simp [cond]
 split
 · rename_i h
   have h:=of_decide_eq_true h
   split
   · rename_i q;have q:=of_decide_eq_true q
     refine ⟨fun z=>(by cases z),fun z=>absurd (z o!) o!⟩
   · rename_i q;have q:=of_decide_eq_false q
     exact ⟨fun _ _=>by omega,fun _=>rfl⟩
 · rename_i h
   have h:=of_decide_eq_false h
   exact ⟨fun _ q=>by omega,fun _=>rfl⟩
def Qq (f:Fact):Prop:=f.kind.length≤1000∧f.item.length≤1000∧f.bl.length≤1000∧0≤f.time∧f.time≤1000000∧-9223372036854775808≤f.number∧f.number<9223372036854775808
theorem TH {a:List Fact} {f:Fact} (h:aY a f=0):Qq f:=by
 obtain ⟨h1,h2,h3,h4,h5,_⟩:=yN.1 h
 have:=Gi.1 h1
 have:=By.1 h2
 have:=(qS h3).1
 have:=(qS h4).1
 have:=(qS h5).1
 exact ⟨by omega,by omega,by omega,by omega,by omega,by omega,by omega⟩
theorem nf {l:List Fact} (h:af l=0) (i:Nat) (hi:i<l.length):Qq (l.g i):=TH ((xN.1 h).2 i hi)
theorem gC {l:List Fact} (h:af l=0):l.length≤512:=(xN.1 h).1
def uq:Code:=(Tryz.f32.body).getD .skip
theorem mz:Tryz.f32.body=some uq:=by kernel_rfl
def Gj:Code:=(bY uq).getD 0 .skip
def bF (s:List UInt8):Nat→Nat→Option (Bool)
 | 0,_=>none
 | eX+1,i0=>(bif (decide ((((s.g i0).toNat:Nat):Int)<97)) then (bif (decide ((((s.g i0).toNat:Nat):Int)<48)) then (bif (!decide ((((s.g i0).toNat:Nat):Int)=45)) then some false else bF s eX (i0+1)) else (bif (decide (57<(((s.g i0).toNat:Nat):Int))) then (bif (!decide ((((s.g i0).toNat:Nat):Int)=45)) then some false else bF s eX (i0+1)) else bF s eX (i0+1))) else (bif (decide (122<(((s.g i0).toNat:Nat):Int))) then (bif (decide ((((s.g i0).toNat:Nat):Int)<48)) then (bif (!decide ((((s.g i0).toNat:Nat):Int)=45)) then some false else bF s eX (i0+1)) else (bif (decide (57<(((s.g i0).toNat:Nat):Int))) then (bif (!decide ((((s.g i0).toNat:Nat):Int)=45)) then some false else bF s eX (i0+1)) else bF s eX (i0+1))) else bF s eX (i0+1)))
theorem eA {d:Nat} {h:ag} (s:List UInt8) (aR:s.length<2^60):∀(k_ i_:Nat) (_:i_+k_=(List.length s)) (x:Nat→AV) (hh:ag) (aO:Tidy hh) (aF:Has h hh),aD (cC (d)) Gj ⟨((AV.str s)::(x 1)::(x 2)::(Zn i_)::rx x 4 46 []),hh,[],.no⟩ (.exit 0) hh (fun y=>((AV.str s)::rx y 1 49 [])) (fun r y=>((AV.str s)::(y 1)::(AV.bool r)::rx y 3 47 [])) (bF s k_ i_)
 | 0,i0,nR,x,hh,aO,aF=>by
   have sn1:s.length<2^60:=aR
   have q2:(decide (((i0:Nat):Int)<((List.length s:Nat):Int)))=false:=d!
   exact aD.out rfl (pk (d) _ _ hh _ hh (CN 3<|VV (bx 3 false false .i64 ((i0:Nat):Int) ((List.length s:Nat):Int))<|BB q2<|ZZ) k!) (cf.refl aO) k!
 | eX+1,i0,nR,x,hh,aO,aF=>by
   have sn1:s.length<2^60:=aR
   have q2:(decide (((i0:Nat):Int)<((List.length s:Nat):Int)))=true:=d!
   have ma:im env (some .string) (some (AV.str s)) (some (Zn i0))=some (AV.int .u8 (((s.g i0).toNat:Nat):Int)):=jj (j:=i0) o!
   rcases Bool.eq_false_or_eq_true (decide ((((s.g i0).toNat:Nat):Int)<97)) with f1 | f1
   · have fq:=of_decide_eq_true f1
     rcases Bool.eq_false_or_eq_true (decide ((((s.g i0).toNat:Nat):Int)<48)) with f2 | f2
     · have Bz:=of_decide_eq_true f2
       rcases Bool.eq_false_or_eq_true (!decide ((((s.g i0).toNat:Nat):Int)=45)) with f3 | f3
       · have BA:=uj f3
         exact aD.ret false (by simp only[bF,f1,f2,f3,ah,ae]) (pk (d) _ _ hh _ hh (CN 3<|VV (bx 3 false false .i64 ((i0:Nat):Int) ((List.length s:Nat):Int))<|BB q2<|CN 2<|VV ma<|CN 2<|VV (bx 5 false true .u8 (((s.g i0).toNat:Nat):Int) 97)<|CC<|BB f1<|BV f1 (uE true f1)<|CC<|TT<|CC<|TT<|VV (bx 5 false true .u8 (((s.g i0).toNat:Nat):Int) 48)<|TT<|CC<|BB f2<|BB f2<|TT<|VV (uE true f2)<|CN 2<|TT<|CC<|TT<|VV (bD 5 false true .u8 (((s.g i0).toNat:Nat):Int) 45)<|CC<|BC f3<|ZZ) k!) (cf.refl aO) k!
       · have BA:=uk f3
         have u7:=iD 3 false true i0 1 o!
         exact aD.round (by simp only[bF,f1,f2,f3,ah,ae]) (pk (d) _ _ hh _ hh (CN 3<|VV (bx 3 false false .i64 ((i0:Nat):Int) ((List.length s:Nat):Int))<|BB q2<|CN 2<|VV ma<|CN 2<|VV (bx 5 false true .u8 (((s.g i0).toNat:Nat):Int) 97)<|CC<|BB f1<|BV f1 (uE true f1)<|CC<|TT<|CC<|TT<|VV (bx 5 false true .u8 (((s.g i0).toNat:Nat):Int) 48)<|TT<|CC<|BB f2<|BB f2<|TT<|VV (uE true f2)<|CN 2<|TT<|CC<|TT<|VV (bD 5 false true .u8 (((s.g i0).toNat:Nat):Int) 45)<|CC<|BC f3<|VV u7<|CC<|ZZ) k!) (cf.refl aO) _ k! (fun x=>eA s aR eX (i0+1) o! x hh aO aF)
     · have Bz:=of_decide_eq_false f2
       rcases Bool.eq_false_or_eq_true (decide (57<(((s.g i0).toNat:Nat):Int))) with f3 | f3
       · have BA:=of_decide_eq_true f3
         rcases Bool.eq_false_or_eq_true (!decide ((((s.g i0).toNat:Nat):Int)=45)) with f4 | f4
         · have Gk:=uj f4
           exact aD.ret false (by simp only[bF,f1,f2,f3,f4,ah,ae]) (pk (d) _ _ hh _ hh (CN 3<|VV (bx 3 false false .i64 ((i0:Nat):Int) ((List.length s:Nat):Int))<|BB q2<|CN 2<|VV ma<|CN 2<|VV (bx 5 false true .u8 (((s.g i0).toNat:Nat):Int) 97)<|CC<|BB f1<|BV f1 (uE true f1)<|CC<|TT<|CC<|TT<|VV (bx 5 false true .u8 (((s.g i0).toNat:Nat):Int) 48)<|TT<|CC<|BC f2<|BV f2 (cb 5 false true .u8 (((s.g i0).toNat:Nat):Int) 57)<|TT<|VV (az (a:=some (AV.bool true)) (b:=some (AV.bool (decide (57<(((s.g i0).toNat:Nat):Int))))) f2)<|CN 2<|BC f3<|BV f3 (bD 5 false true .u8 (((s.g i0).toNat:Nat):Int) 45)<|VV (nG (!decide ((((s.g i0).toNat:Nat):Int)=45)) false f3)<|BC f4<|ZZ) k!) (cf.refl aO) k!
         · have Gk:=uk f4
           have u8:=iD 3 false true i0 1 o!
           exact aD.round (by simp only[bF,f1,f2,f3,f4,ah,ae]) (pk (d) _ _ hh _ hh (CN 3<|VV (bx 3 false false .i64 ((i0:Nat):Int) ((List.length s:Nat):Int))<|BB q2<|CN 2<|VV ma<|CN 2<|VV (bx 5 false true .u8 (((s.g i0).toNat:Nat):Int) 97)<|CC<|BB f1<|BV f1 (uE true f1)<|CC<|TT<|CC<|TT<|VV (bx 5 false true .u8 (((s.g i0).toNat:Nat):Int) 48)<|TT<|CC<|BC f2<|BV f2 (cb 5 false true .u8 (((s.g i0).toNat:Nat):Int) 57)<|TT<|VV (az (a:=some (AV.bool true)) (b:=some (AV.bool (decide (57<(((s.g i0).toNat:Nat):Int))))) f2)<|CN 2<|BC f3<|BV f3 (bD 5 false true .u8 (((s.g i0).toNat:Nat):Int) 45)<|VV (nG (!decide ((((s.g i0).toNat:Nat):Int)=45)) false f3)<|BC f4<|VV u8<|CC<|ZZ) k!) (cf.refl aO) _ k! (fun x=>eA s aR eX (i0+1) o! x hh aO aF)
       · have BA:=of_decide_eq_false f3
         have u7:=iD 3 false true i0 1 o!
         exact aD.round (by simp only[bF,f1,f2,f3,ah,ae]) (pk (d) _ _ hh _ hh (CN 3<|VV (bx 3 false false .i64 ((i0:Nat):Int) ((List.length s:Nat):Int))<|BB q2<|CN 2<|VV ma<|CN 2<|VV (bx 5 false true .u8 (((s.g i0).toNat:Nat):Int) 97)<|CC<|BB f1<|BV f1 (uE true f1)<|CC<|TT<|CC<|TT<|VV (bx 5 false true .u8 (((s.g i0).toNat:Nat):Int) 48)<|TT<|CC<|BC f2<|BV f2 (cb 5 false true .u8 (((s.g i0).toNat:Nat):Int) 57)<|TT<|VV (az (a:=some (AV.bool true)) (b:=some (AV.bool (decide (57<(((s.g i0).toNat:Nat):Int))))) f2)<|CN 2<|BB f3<|BV f3 (Bf false f3)<|FF<|CC<|VV u7<|CC<|ZZ) k!) (cf.refl aO) _ k! (fun x=>eA s aR eX (i0+1) o! x hh aO aF)
   · have fq:=of_decide_eq_false f1
     rcases Bool.eq_false_or_eq_true (decide (122<(((s.g i0).toNat:Nat):Int))) with f2 | f2
     · have Bz:=of_decide_eq_true f2
       rcases Bool.eq_false_or_eq_true (decide ((((s.g i0).toNat:Nat):Int)<48)) with f3 | f3
       · have BA:=of_decide_eq_true f3
         rcases Bool.eq_false_or_eq_true (!decide ((((s.g i0).toNat:Nat):Int)=45)) with f4 | f4
         · have Gk:=uj f4
           exact aD.ret false (by simp only[bF,f1,f2,f3,f4,ah,ae]) (pk (d) _ _ hh _ hh (CN 3<|VV (bx 3 false false .i64 ((i0:Nat):Int) ((List.length s:Nat):Int))<|BB q2<|CN 2<|VV ma<|CN 2<|VV (bx 5 false true .u8 (((s.g i0).toNat:Nat):Int) 97)<|CC<|BC f1<|BV f1 (cb 5 false true .u8 (((s.g i0).toNat:Nat):Int) 122)<|VV (az (a:=some (AV.bool true)) (b:=some (AV.bool (decide (122<(((s.g i0).toNat:Nat):Int))))) f1)<|CC<|BC f2<|BV f2 (bx 5 false true .u8 (((s.g i0).toNat:Nat):Int) 48)<|BC f2<|BB f3<|BB f3<|BV f2 (uE true f3)<|VV (nG true false f2)<|CC<|TT<|CC<|TT<|VV (bD 5 false true .u8 (((s.g i0).toNat:Nat):Int) 45)<|CC<|BC f4<|ZZ) k!) (cf.refl aO) k!
         · have Gk:=uk f4
           have u8:=iD 3 false true i0 1 o!
           exact aD.round (by simp only[bF,f1,f2,f3,f4,ah,ae]) (pk (d) _ _ hh _ hh (CN 3<|VV (bx 3 false false .i64 ((i0:Nat):Int) ((List.length s:Nat):Int))<|BB q2<|CN 2<|VV ma<|CN 2<|VV (bx 5 false true .u8 (((s.g i0).toNat:Nat):Int) 97)<|CC<|BC f1<|BV f1 (cb 5 false true .u8 (((s.g i0).toNat:Nat):Int) 122)<|VV (az (a:=some (AV.bool true)) (b:=some (AV.bool (decide (122<(((s.g i0).toNat:Nat):Int))))) f1)<|CC<|BC f2<|BV f2 (bx 5 false true .u8 (((s.g i0).toNat:Nat):Int) 48)<|BC f2<|BB f3<|BB f3<|BV f2 (uE true f3)<|VV (nG true false f2)<|CC<|TT<|CC<|TT<|VV (bD 5 false true .u8 (((s.g i0).toNat:Nat):Int) 45)<|CC<|BC f4<|VV u8<|CC<|ZZ) k!) (cf.refl aO) _ k! (fun x=>eA s aR eX (i0+1) o! x hh aO aF)
       · have BA:=of_decide_eq_false f3
         rcases Bool.eq_false_or_eq_true (decide (57<(((s.g i0).toNat:Nat):Int))) with f4 | f4
         · have Gk:=of_decide_eq_true f4
           rcases Bool.eq_false_or_eq_true (!decide ((((s.g i0).toNat:Nat):Int)=45)) with f5 | f5
           · have Ni:=uj f5
             exact aD.ret false (by simp only[bF,f1,f2,f3,f4,f5,ah,ae]) (pk (d) _ _ hh _ hh (CN 3<|VV (bx 3 false false .i64 ((i0:Nat):Int) ((List.length s:Nat):Int))<|BB q2<|CN 2<|VV ma<|CN 2<|VV (bx 5 false true .u8 (((s.g i0).toNat:Nat):Int) 97)<|CC<|BC f1<|BV f1 (cb 5 false true .u8 (((s.g i0).toNat:Nat):Int) 122)<|VV (az (a:=some (AV.bool true)) (b:=some (AV.bool (decide (122<(((s.g i0).toNat:Nat):Int))))) f1)<|CC<|BC f2<|BV f2 (bx 5 false true .u8 (((s.g i0).toNat:Nat):Int) 48)<|BC f2<|BC f3<|BV f3 (cb 5 false true .u8 (((s.g i0).toNat:Nat):Int) 57)<|BV f2 (az (a:=some (AV.bool true)) (b:=some (AV.bool (decide (57<(((s.g i0).toNat:Nat):Int))))) f3)<|VV (nG (decide (57<(((s.g i0).toNat:Nat):Int))) false f2)<|CC<|BC f4<|BV f4 (bD 5 false true .u8 (((s.g i0).toNat:Nat):Int) 45)<|VV (nG (!decide ((((s.g i0).toNat:Nat):Int)=45)) false f4)<|BC f5<|ZZ) k!) (cf.refl aO) k!
           · have Ni:=uk f5
             have u9:=iD 3 false true i0 1 o!
             exact aD.round (by simp only[bF,f1,f2,f3,f4,f5,ah,ae]) (pk (d) _ _ hh _ hh (CN 3<|VV (bx 3 false false .i64 ((i0:Nat):Int) ((List.length s:Nat):Int))<|BB q2<|CN 2<|VV ma<|CN 2<|VV (bx 5 false true .u8 (((s.g i0).toNat:Nat):Int) 97)<|CC<|BC f1<|BV f1 (cb 5 false true .u8 (((s.g i0).toNat:Nat):Int) 122)<|VV (az (a:=some (AV.bool true)) (b:=some (AV.bool (decide (122<(((s.g i0).toNat:Nat):Int))))) f1)<|CC<|BC f2<|BV f2 (bx 5 false true .u8 (((s.g i0).toNat:Nat):Int) 48)<|BC f2<|BC f3<|BV f3 (cb 5 false true .u8 (((s.g i0).toNat:Nat):Int) 57)<|BV f2 (az (a:=some (AV.bool true)) (b:=some (AV.bool (decide (57<(((s.g i0).toNat:Nat):Int))))) f3)<|VV (nG (decide (57<(((s.g i0).toNat:Nat):Int))) false f2)<|CC<|BC f4<|BV f4 (bD 5 false true .u8 (((s.g i0).toNat:Nat):Int) 45)<|VV (nG (!decide ((((s.g i0).toNat:Nat):Int)=45)) false f4)<|BC f5<|VV u9<|CC<|ZZ) k!) (cf.refl aO) _ k! (fun x=>eA s aR eX (i0+1) o! x hh aO aF)
         · have Gk:=of_decide_eq_false f4
           have u8:=iD 3 false true i0 1 o!
           exact aD.round (by simp only[bF,f1,f2,f3,f4,ah,ae]) (pk (d) _ _ hh _ hh (CN 3<|VV (bx 3 false false .i64 ((i0:Nat):Int) ((List.length s:Nat):Int))<|BB q2<|CN 2<|VV ma<|CN 2<|VV (bx 5 false true .u8 (((s.g i0).toNat:Nat):Int) 97)<|CC<|BC f1<|BV f1 (cb 5 false true .u8 (((s.g i0).toNat:Nat):Int) 122)<|VV (az (a:=some (AV.bool true)) (b:=some (AV.bool (decide (122<(((s.g i0).toNat:Nat):Int))))) f1)<|CC<|BC f2<|BV f2 (bx 5 false true .u8 (((s.g i0).toNat:Nat):Int) 48)<|BC f2<|BC f3<|BV f3 (cb 5 false true .u8 (((s.g i0).toNat:Nat):Int) 57)<|BV f2 (az (a:=some (AV.bool true)) (b:=some (AV.bool (decide (57<(((s.g i0).toNat:Nat):Int))))) f3)<|VV (nG (decide (57<(((s.g i0).toNat:Nat):Int))) false f2)<|CC<|BB f4<|BV f4 (Bf false f4)<|FF<|CC<|VV u8<|CC<|ZZ) k!) (cf.refl aO) _ k! (fun x=>eA s aR eX (i0+1) o! x hh aO aF)
     · have Bz:=of_decide_eq_false f2
       have u6:=iD 3 false true i0 1 o!
       exact aD.round (by simp only[bF,f1,f2,ah,ae]) (pk (d) _ _ hh _ hh (CN 3<|VV (bx 3 false false .i64 ((i0:Nat):Int) ((List.length s:Nat):Int))<|BB q2<|CN 2<|VV ma<|CN 2<|VV (bx 5 false true .u8 (((s.g i0).toNat:Nat):Int) 97)<|CC<|BC f1<|BV f1 (cb 5 false true .u8 (((s.g i0).toNat:Nat):Int) 122)<|VV (az (a:=some (AV.bool true)) (b:=some (AV.bool (decide (122<(((s.g i0).toNat:Nat):Int))))) f1)<|CC<|BB f2<|BB f2<|BB f2<|BV f2 (Bf false f2)<|CC<|FF<|FF<|CC<|FF<|CC<|VV u6<|CC<|ZZ) k!) (cf.refl aO) _ k! (fun x=>eA s aR eX (i0+1) o! x hh aO aF)
def bM (s:List UInt8):Bool:=(bif (decide (((List.length s:Nat):Int)=0)) then false else (bif (decide (16<((List.length s:Nat):Int))) then false else (bif (decide ((((s.g 0).toNat:Nat):Int)<97)) then false else (bif (decide (122<(((s.g 0).toNat:Nat):Int))) then false else (match (bF s (List.length s) 0) with | none=>true | some rr8=>rr8)))))
theorem xO {d:Nat} {h:ag} (s:List UInt8) (RQ:s.length<2^60) (bK:Tidy h):cC (d+1) (.fn 32) [(AV.str s)] h= .ret (AV.bool (bM s)) h:=by
 have sn1:s.length<2^60:=RQ
 rcases Bool.eq_false_or_eq_true (decide (((List.length s:Nat):Int)=0)) with f0 | f0
 · have eg:=of_decide_eq_true f0
   have e:bM s=false:=by simp only[bM,f0,ah,ae]
   rw[e]
   exact ar rfl (aE Tryz.func32 mz rfl (.inr rfl) (pk (d) _ _ h _ h (CN 3<|VV (ly 3 false true .i64 ((List.length s:Nat):Int) 0)<|CC<|BB f0<|BB f0<|BV f0 (uE true f0)<|CC<|TT<|TT<|TT<|CN 2<|TT<|TT<|TT<|CC<|TT<|CC<|ZZ) k!) k!) (Has.refl _) rfl
 · have eg:=of_decide_eq_false f0
   rcases Bool.eq_false_or_eq_true (decide (16<((List.length s:Nat):Int))) with f1 | f1
   · have fq:=of_decide_eq_true f1
     have e:bM s=false:=by simp only[bM,f0,f1,ah,ae]
     rw[e]
     exact ar rfl (aE Tryz.func32 mz rfl (.inr rfl) (pk (d) _ _ h _ h (CN 3<|VV (ly 3 false true .i64 ((List.length s:Nat):Int) 0)<|CC<|BC f0<|BC f0<|BV f0 (cb 3 false true .i64 ((List.length s:Nat):Int) 16)<|VV (az (a:=some (AV.bool true)) (b:=some (AV.bool (decide (16<((List.length s:Nat):Int))))) f0)<|CC<|BB f1<|BB f1<|BV f1 (uE true f1)<|CC<|TT<|TT<|TT<|CC<|TT<|CC<|ZZ) k!) k!) (Has.refl _) rfl
   · have fq:=of_decide_eq_false f1
     have U0:im env (some .string) (some (AV.str s)) (some (Zi 0))=some (AV.int .u8 (((s.g 0).toNat:Nat):Int)):=jj (j:=0) o!
     rcases Bool.eq_false_or_eq_true (decide ((((s.g 0).toNat:Nat):Int)<97)) with f2 | f2
     · have Bz:=of_decide_eq_true f2
       have e:bM s=false:=by simp only[bM,f0,f1,f2,ah,ae]
       rw[e]
       exact ar rfl (aE Tryz.func32 mz rfl (.inr rfl) (pk (d) _ _ h _ h (CN 3<|VV (ly 3 false true .i64 ((List.length s:Nat):Int) 0)<|CC<|BC f0<|BC f0<|BV f0 (cb 3 false true .i64 ((List.length s:Nat):Int) 16)<|VV (az (a:=some (AV.bool true)) (b:=some (AV.bool (decide (16<((List.length s:Nat):Int))))) f0)<|CC<|BC f1<|BV f1 U0<|BV f1 (bx 5 false true .u8 (((s.g 0).toNat:Nat):Int) 97)<|VV (az (a:=some (AV.bool true)) (b:=some (AV.bool (decide ((((s.g 0).toNat:Nat):Int)<97)))) f1)<|CC<|BB f2<|BB f2<|BV f2 (uE true f2)<|TT<|CC<|ZZ) k!) k!) (Has.refl _) rfl
     · have Bz:=of_decide_eq_false f2
       have U2:im env (some .string) (some (AV.str s)) (some (Zi 0))=some (AV.int .u8 (((s.g 0).toNat:Nat):Int)):=jj (j:=0) o!
       rcases Bool.eq_false_or_eq_true (decide (122<(((s.g 0).toNat:Nat):Int))) with f3 | f3
       · have BA:=of_decide_eq_true f3
         have e:bM s=false:=by simp only[bM,f0,f1,f2,f3,ah,ae]
         rw[e]
         exact ar rfl (aE Tryz.func32 mz rfl (.inr rfl) (pk (d) _ _ h _ h (CN 3<|VV (ly 3 false true .i64 ((List.length s:Nat):Int) 0)<|CC<|BC f0<|BC f0<|BV f0 (cb 3 false true .i64 ((List.length s:Nat):Int) 16)<|VV (az (a:=some (AV.bool true)) (b:=some (AV.bool (decide (16<((List.length s:Nat):Int))))) f0)<|CC<|BC f1<|BV f1 U0<|BV f1 (bx 5 false true .u8 (((s.g 0).toNat:Nat):Int) 97)<|VV (az (a:=some (AV.bool true)) (b:=some (AV.bool (decide ((((s.g 0).toNat:Nat):Int)<97)))) f1)<|CC<|BC f2<|BV f2 U2<|BV f2 (cb 5 false true .u8 (((s.g 0).toNat:Nat):Int) 122)<|VV (az (a:=some (AV.bool true)) (b:=some (AV.bool (decide (122<(((s.g 0).toNat:Nat):Int))))) f2)<|BC f3<|ZZ) k!) k!) (Has.refl _) rfl
       · have BA:=of_decide_eq_false f3
         cases BD:bF s (List.length s) 0 with
         | none=>
           obtain ⟨yl8,h9,Gl,xP⟩:=aD.n BD (eA (d:=d) (h:=h) s RQ (List.length s) 0 o! (fun k_=>(((AV.str s)::AV.undef::(AV.bool false)::(Zi 0)::AV.undef::(AV.str s)::(Zn (List.length s))::(AV.bool (decide (((List.length s:Nat):Int)=0)))::(AV.bool (decide (((List.length s:Nat):Int)=0)))::(AV.str s)::(Zn (List.length s))::(AV.bool (decide (16<((List.length s:Nat):Int))))::(AV.bool (decide (16<((List.length s:Nat):Int))))::(AV.bool (decide (16<((List.length s:Nat):Int))))::(AV.str s)::(AV.int .u8 (((s.g 0).toNat:Nat):Int))::(AV.bool (decide ((((s.g 0).toNat:Nat):Int)<97)))::(AV.bool (decide ((((s.g 0).toNat:Nat):Int)<97)))::(AV.bool (decide ((((s.g 0).toNat:Nat):Int)<97)))::(AV.str s)::(AV.int .u8 (((s.g 0).toNat:Nat):Int))::(AV.bool (decide (122<(((s.g 0).toNat:Nat):Int))))::(AV.bool (decide (122<(((s.g 0).toNat:Nat):Int))))::ck 27):List AV).getD k_ AV.undef) h bK (Has.refl _))
           have o9:=xP.y
           have Qs:h.nx≤h9.nx:=xP.n
           have ng:Has h h9:=xP.a
           have e:bM s=true:=by simp only[bM,f0,f1,f2,f3,BD,ah,ae]
           rw[e]
           exact ar rfl (aE Tryz.func32 mz rfl (.inr rfl) (pk (d) _ _ h _ h9 (CN 3<|VV (ly 3 false true .i64 ((List.length s:Nat):Int) 0)<|CC<|BC f0<|BC f0<|BV f0 (cb 3 false true .i64 ((List.length s:Nat):Int) 16)<|VV (az (a:=some (AV.bool true)) (b:=some (AV.bool (decide (16<((List.length s:Nat):Int))))) f0)<|CC<|BC f1<|BV f1 U0<|BV f1 (bx 5 false true .u8 (((s.g 0).toNat:Nat):Int) 97)<|VV (az (a:=some (AV.bool true)) (b:=some (AV.bool (decide ((((s.g 0).toNat:Nat):Int)<97)))) f1)<|CC<|BC f2<|BV f2 U2<|BV f2 (cb 5 false true .u8 (((s.g 0).toNat:Nat):Int) 122)<|VV (az (a:=some (AV.bool true)) (b:=some (AV.bool (decide (122<(((s.g 0).toNat:Nat):Int))))) f2)<|BC f3<|LL Gl<|CC<|ZZ) k!) k!) ng rfl
         | some rr8=>
           obtain ⟨yl8,h9,Gl,xP⟩:=aD.r BD (eA (d:=d) (h:=h) s RQ (List.length s) 0 o! (fun k_=>(((AV.str s)::AV.undef::(AV.bool false)::(Zi 0)::AV.undef::(AV.str s)::(Zn (List.length s))::(AV.bool (decide (((List.length s:Nat):Int)=0)))::(AV.bool (decide (((List.length s:Nat):Int)=0)))::(AV.str s)::(Zn (List.length s))::(AV.bool (decide (16<((List.length s:Nat):Int))))::(AV.bool (decide (16<((List.length s:Nat):Int))))::(AV.bool (decide (16<((List.length s:Nat):Int))))::(AV.str s)::(AV.int .u8 (((s.g 0).toNat:Nat):Int))::(AV.bool (decide ((((s.g 0).toNat:Nat):Int)<97)))::(AV.bool (decide ((((s.g 0).toNat:Nat):Int)<97)))::(AV.bool (decide ((((s.g 0).toNat:Nat):Int)<97)))::(AV.str s)::(AV.int .u8 (((s.g 0).toNat:Nat):Int))::(AV.bool (decide (122<(((s.g 0).toNat:Nat):Int))))::(AV.bool (decide (122<(((s.g 0).toNat:Nat):Int))))::ck 27):List AV).getD k_ AV.undef) h bK (Has.refl _))
           have o9:=xP.y
           have Qs:h.nx≤h9.nx:=xP.n
           have ng:Has h h9:=xP.a
           have e:bM s=rr8:=by simp only[bM,f0,f1,f2,f3,BD,ah,ae]
           rw[e]
           exact ar rfl (aE Tryz.func32 mz rfl (.inr rfl) (pk (d) _ _ h _ h9 (CN 3<|VV (ly 3 false true .i64 ((List.length s:Nat):Int) 0)<|CC<|BC f0<|BC f0<|BV f0 (cb 3 false true .i64 ((List.length s:Nat):Int) 16)<|VV (az (a:=some (AV.bool true)) (b:=some (AV.bool (decide (16<((List.length s:Nat):Int))))) f0)<|CC<|BC f1<|BV f1 U0<|BV f1 (bx 5 false true .u8 (((s.g 0).toNat:Nat):Int) 97)<|VV (az (a:=some (AV.bool true)) (b:=some (AV.bool (decide ((((s.g 0).toNat:Nat):Int)<97)))) f1)<|CC<|BC f2<|BV f2 U2<|BV f2 (cb 5 false true .u8 (((s.g 0).toNat:Nat):Int) 122)<|VV (az (a:=some (AV.bool true)) (b:=some (AV.bool (decide (122<(((s.g 0).toNat:Nat):Int))))) f2)<|BC f3<|LL Gl<|ZZ) k!) k!) ng rfl
def yO:Code:=(Tryz.f31.body).getD .skip
theorem xQ:Tryz.f31.body=some yO:=by kernel_rfl
def cF (n:Int):Bool:=(bif (decide ((-1000000000000)≤n)) then (decide (n≤1000000000000)) else false)
theorem Gm {d:Nat} {h:ag} (n:Int) (bK:Tidy h):cC (d+1) (.fn 31) [(Zi n)] h= .ret (AV.bool (cF n)) h:=by
 rcases Bool.eq_false_or_eq_true (decide ((-1000000000000)≤n)) with f0 | f0
 · have eg:=of_decide_eq_true f0
   have e:cF n=(decide (n≤1000000000000)):=by simp only[cF,f0,ah,ae]
   rw[e]
   exact ar rfl (aE Tryz.func31 xQ rfl (.inr rfl) (pk (d) _ _ h _ h (CN 2<|VV (cR 2 false true .i64 n (-1000000000000))<|CC<|BC f0<|BV f0 (tc 2 false true .i64 n 1000000000000)<|VV (nG (decide (n≤1000000000000)) false f0)<|CC<|ZZ) k!) k!) (Has.refl _) rfl
 · have eg:=of_decide_eq_false f0
   have e:cF n=false:=by simp only[cF,f0,ah,ae]
   rw[e]
   exact ar rfl (aE Tryz.func31 xQ rfl (.inr rfl) (pk (d) _ _ h _ h (CN 2<|VV (cR 2 false true .i64 n (-1000000000000))<|CC<|BB f0<|BV f0 (Bf false f0)<|CC<|ZZ) k!) k!) (Has.refl _) rfl
def BE:Code:=(Tryz.f30.body).getD .skip
theorem zG:Tryz.f30.body=some BE:=by kernel_rfl
def fV (n:Int):Bool:=(bif (decide (0≤n)) then (decide (n≤100000)) else false)
theorem I6 {d:Nat} {h:ag} (n:Int) (bK:Tidy h):cC (d+1) (.fn 30) [(Zi n)] h= .ret (AV.bool (fV n)) h:=by
 rcases Bool.eq_false_or_eq_true (decide (0≤n)) with f0 | f0
 · have eg:=of_decide_eq_true f0
   have e:fV n=(decide (n≤100000)):=by simp only[fV,f0,ah,ae]
   rw[e]
   exact ar rfl (aE Tryz.func30 zG rfl (.inr rfl) (pk (d) _ _ h _ h (CN 2<|VV (cR 3 false true .i64 n 0)<|CC<|BC f0<|BV f0 (tc 3 false true .i64 n 100000)<|VV (nG (decide (n≤100000)) false f0)<|CC<|ZZ) k!) k!) (Has.refl _) rfl
 · have eg:=of_decide_eq_false f0
   have e:fV n=false:=by simp only[fV,f0,ah,ae]
   rw[e]
   exact ar rfl (aE Tryz.func30 zG rfl (.inr rfl) (pk (d) _ _ h _ h (CN 2<|VV (cR 3 false true .i64 n 0)<|CC<|BB f0<|BV f0 (Bf false f0)<|CC<|ZZ) k!) k!) (Has.refl _) rfl
def kZ:Code:=(Tryz.f9.body).getD .skip
theorem jO:Tryz.f9.body=some kZ:=by kernel_rfl
def r_:Code:=(bY kZ).getD 0 .skip
def aH (l_:List Fact):Nat→Nat→Option (Int)
 | 0,_=>none
 | eX+1,i0=>(bif (!(fV (l_.g i0).time)) then some 1 else (bif (!(cF (l_.g i0).number)) then some 1 else (bif (!(bM (l_.g i0).kind)) then some 5 else (bif (!(bM (l_.g i0).item)) then some 5 else (bif (!(bM (l_.g i0).bl)) then some 5 else (bif (decide (0<((i0:Nat):Int))) then (bif (decide ((l_.g i0).time<((l_.g (i0 - 1)).time))) then some 8 else aH l_ eX (i0+1)) else aH l_ eX (i0+1)))))))
theorem fu {d:Nat} {h:ag} (bw:AV) (l_:List Fact) (aR:ax h bw l_):∀(k_ i_:Nat) (_:i_+k_=l_.length) (x:Nat→AV) (hh:ag) (aO:Tidy hh) (aF:Has h hh),aD (cC (d+1)) r_ ⟨(bw::(x 1)::(x 2)::(Zn i_)::rx x 4 56 []),hh,[],.no⟩ (.exit 0) hh (fun y=>(bw::rx y 1 59 [])) (fun r y=>(bw::(y 1)::(Zi r)::rx y 3 57 [])) (aH l_ k_ i_)
 | 0,i0,nR,x,hh,aO,aF=>by
   have db:=aR.small
   have gB:cV (some (.slice 40)) (some bw)=some (Zn l_.length):=(aR.has aF).len
   have q2:(decide (((i0:Nat):Int)<((l_.length:Nat):Int)))=false:=d!
   exact aD.out rfl (pk (d+1) _ _ hh _ hh (CN 2<|VV gB<|VV (bx 3 false false .i64 ((i0:Nat):Int) ((l_.length:Nat):Int))<|BB q2<|ZZ) k!) (cf.refl aO) k!
 | eX+1,i0,nR,x,hh,aO,aF=>by
   have db:=aR.small
   have gB:cV (some (.slice 40)) (some bw)=some (Zn l_.length):=(aR.has aF).len
   have q2:(decide (((i0:Nat):Int)<((l_.length:Nat):Int)))=true:=d!
   obtain ⟨p4,q5,lf⟩:=(aR.has aF).elem (i:=i0) o!
   have ma:bP env (some (.slice 40)) (some bw) (some (Zn i0))=some (AV.ptr p4 q5):=lf
   have o_:bH env hh 40 (AV.ptr p4 q5)=some (AV.agg [(Zi (l_.g i0).time),(AV.str (l_.g i0).kind),(AV.str (l_.g i0).item),(AV.str (l_.g i0).bl),(Zi (l_.g i0).number)]):=(aR.has aF).load o! lf
   obtain ⟨h7,DZ,jJ,F6,jM,aaL⟩:=te aO (aw.cells [(Zi 0),(AV.str []),(AV.str []),(AV.str []),(Zi 0)] 40 false)
   have hX:Has hh h7:=aaL
   obtain ⟨h8,yI,jK,Ty,fY,Xa⟩:=FW (t:=40) (n:=5) (i:=hh.nx) (L:=[(Zi (l_.g i0).time),(AV.str (l_.g i0).kind),(AV.str (l_.g i0).item),(AV.str (l_.g i0).bl),(Zi (l_.g i0).number)]) jJ jM k! rfl rfl (by simp only[AV.cells,List.all_cons,List.all_nil,Bool.and_true,Bool.and_self,qF,m3,qG,qH,kC,wc,we,wg,wh,wi,qI])
   have iP:Has hh h8:=Has.iE hX Xa aO o!
   have k9:=I6 (d:=d) (l_.g i0).time jK
   rcases Bool.eq_false_or_eq_true (!(fV (l_.g i0).time)) with f1 | f1
   · exact aD.ret 1 (by simp only[aH,f1,ah,ae]) (pk (d+1) _ _ hh _ h8 (CN 2<|VV gB<|VV (bx 3 false false .i64 ((i0:Nat):Int) ((l_.length:Nat):Int))<|BB q2<|CN 2<|VV ma<|MM o_<|NN DZ (fun i=>(Pt i))<|SS yI<|CC<|MM (aX 3 0 (Zi (l_.g i0).time) fY k!)<|EE k9<|CN 2<|BB f1<|BB f1<|BB f1<|BV f1 (uE true f1)<|CC<|TT<|CC<|ZZ) k!) (⟨jK,iP,by omega⟩) k!
   · have Be:=Gm (d:=d) (l_.g i0).number jK
     rcases Bool.eq_false_or_eq_true (!(cF (l_.g i0).number)) with f2 | f2
     · exact aD.ret 1 (by simp only[aH,f1,f2,ah,ae]) (pk (d+1) _ _ hh _ h8 (CN 2<|VV gB<|VV (bx 3 false false .i64 ((i0:Nat):Int) ((l_.length:Nat):Int))<|BB q2<|CN 2<|VV ma<|MM o_<|NN DZ (fun i=>(Pt i))<|SS yI<|CC<|MM (aX 3 0 (Zi (l_.g i0).time) fY k!)<|EE k9<|CN 2<|BC f1<|BM f1 (aX 2 4 (Zi (l_.g i0).number) fY k!)<|BB f1<|EE Be<|BC f1<|VV (az (a:=some (AV.bool true)) (b:=some (AV.bool (!(cF (l_.g i0).number)))) f1)<|CC<|BC f2<|ZZ) k!) (⟨jK,iP,by omega⟩) k!
     · have Rp:=xO (d:=d) (l_.g i0).kind ((aR.has aF).ok (i:=i0) o!).1 jK
       rcases Bool.eq_false_or_eq_true (!(bM (l_.g i0).kind)) with f3 | f3
       · exact aD.ret 5 (by simp only[aH,f1,f2,f3,ah,ae]) (pk (d+1) _ _ hh _ h8 (CN 2<|VV gB<|VV (bx 3 false false .i64 ((i0:Nat):Int) ((l_.length:Nat):Int))<|BB q2<|CN 2<|VV ma<|MM o_<|NN DZ (fun i=>(Pt i))<|SS yI<|CC<|MM (aX 3 0 (Zi (l_.g i0).time) fY k!)<|EE k9<|CN 2<|BC f1<|BM f1 (aX 2 4 (Zi (l_.g i0).number) fY k!)<|BB f1<|EE Be<|BC f1<|VV (az (a:=some (AV.bool true)) (b:=some (AV.bool (!(cF (l_.g i0).number)))) f1)<|CC<|BC f2<|MM (aX 9 1 (AV.str (l_.g i0).kind) fY k!)<|EE Rp<|CN 2<|BB f3<|BB f3<|BB f3<|BV f3 (uE true f3)<|CC<|TT<|TT<|TT<|TT<|CN 2<|TT<|CC<|ZZ) k!) (⟨jK,iP,by omega⟩) k!
       · have Ob:=xO (d:=d) (l_.g i0).item ((aR.has aF).ok (i:=i0) o!).2.1 jK
         rcases Bool.eq_false_or_eq_true (!(bM (l_.g i0).item)) with f4 | f4
         · exact aD.ret 5 (by simp only[aH,f1,f2,f3,f4,ah,ae]) (pk (d+1) _ _ hh _ h8 (CN 2<|VV gB<|VV (bx 3 false false .i64 ((i0:Nat):Int) ((l_.length:Nat):Int))<|BB q2<|CN 2<|VV ma<|MM o_<|NN DZ (fun i=>(Pt i))<|SS yI<|CC<|MM (aX 3 0 (Zi (l_.g i0).time) fY k!)<|EE k9<|CN 2<|BC f1<|BM f1 (aX 2 4 (Zi (l_.g i0).number) fY k!)<|BB f1<|EE Be<|BC f1<|VV (az (a:=some (AV.bool true)) (b:=some (AV.bool (!(cF (l_.g i0).number)))) f1)<|CC<|BC f2<|MM (aX 9 1 (AV.str (l_.g i0).kind) fY k!)<|EE Rp<|CN 2<|BC f3<|BM f3 (aX 9 2 (AV.str (l_.g i0).item) fY k!)<|BB f3<|EE Ob<|BC f3<|VV (az (a:=some (AV.bool true)) (b:=some (AV.bool (!(bM (l_.g i0).item)))) f3)<|CC<|BB f4<|BB f4<|BB f4<|BV f4 (uE true f4)<|CC<|TT<|CC<|ZZ) k!) (⟨jK,iP,by omega⟩) k!
         · have UT:=xO (d:=d) (l_.g i0).bl ((aR.has aF).ok (i:=i0) o!).2.2 jK
           rcases Bool.eq_false_or_eq_true (!(bM (l_.g i0).bl)) with f5 | f5
           · exact aD.ret 5 (by simp only[aH,f1,f2,f3,f4,f5,ah,ae]) (pk (d+1) _ _ hh _ h8 (CN 2<|VV gB<|VV (bx 3 false false .i64 ((i0:Nat):Int) ((l_.length:Nat):Int))<|BB q2<|CN 2<|VV ma<|MM o_<|NN DZ (fun i=>(Pt i))<|SS yI<|CC<|MM (aX 3 0 (Zi (l_.g i0).time) fY k!)<|EE k9<|CN 2<|BC f1<|BM f1 (aX 2 4 (Zi (l_.g i0).number) fY k!)<|BB f1<|EE Be<|BC f1<|VV (az (a:=some (AV.bool true)) (b:=some (AV.bool (!(cF (l_.g i0).number)))) f1)<|CC<|BC f2<|MM (aX 9 1 (AV.str (l_.g i0).kind) fY k!)<|EE Rp<|CN 2<|BC f3<|BM f3 (aX 9 2 (AV.str (l_.g i0).item) fY k!)<|BB f3<|EE Ob<|BC f3<|VV (az (a:=some (AV.bool true)) (b:=some (AV.bool (!(bM (l_.g i0).item)))) f3)<|CC<|BC f4<|BM f4 (aX 9 3 (AV.str (l_.g i0).bl) fY k!)<|BB f4<|EE UT<|BC f4<|VV (az (a:=some (AV.bool true)) (b:=some (AV.bool (!(bM (l_.g i0).bl)))) f4)<|CC<|BC f5<|ZZ) k!) (⟨jK,iP,by omega⟩) k!
           · rcases Bool.eq_false_or_eq_true (decide (0<((i0:Nat):Int))) with f6 | f6
             · have Nj:=of_decide_eq_true f6
               have YP:=Wd 3 false true i0 1 o! o!
               obtain ⟨p22,q23,RS⟩:=(aR.has aF).elem (i:=(i0 - 1)) o!
               have Xb:bP env (some (.slice 40)) (some bw) (some (Zn (i0 - 1)))=some (AV.ptr p22 q23):=RS
               have Qt:bH env h8 3 (AV.ptr p22 (q23+0))=some (Zi (l_.g (i0 - 1)).time):=((aR.has aF).has iP).part (t:=3) (j:=0) o! RS k! rfl
               rcases Bool.eq_false_or_eq_true (decide ((l_.g i0).time<((l_.g (i0 - 1)).time))) with f7 | f7
               · have aaM:=of_decide_eq_true f7
                 exact aD.ret 8 (by simp only[aH,f1,f2,f3,f4,f5,f6,f7,ah,ae]) (pk (d+1) _ _ hh _ h8 (CN 2<|VV gB<|VV (bx 3 false false .i64 ((i0:Nat):Int) ((l_.length:Nat):Int))<|BB q2<|CN 2<|VV ma<|MM o_<|NN DZ (fun i=>(Pt i))<|SS yI<|CC<|MM (aX 3 0 (Zi (l_.g i0).time) fY k!)<|EE k9<|CN 2<|BC f1<|BM f1 (aX 2 4 (Zi (l_.g i0).number) fY k!)<|BB f1<|EE Be<|BC f1<|VV (az (a:=some (AV.bool true)) (b:=some (AV.bool (!(cF (l_.g i0).number)))) f1)<|CC<|BC f2<|MM (aX 9 1 (AV.str (l_.g i0).kind) fY k!)<|EE Rp<|CN 2<|BC f3<|BM f3 (aX 9 2 (AV.str (l_.g i0).item) fY k!)<|BB f3<|EE Ob<|BC f3<|VV (az (a:=some (AV.bool true)) (b:=some (AV.bool (!(bM (l_.g i0).item)))) f3)<|CC<|BC f4<|BM f4 (aX 9 3 (AV.str (l_.g i0).bl) fY k!)<|BB f4<|EE UT<|BC f4<|VV (az (a:=some (AV.bool true)) (b:=some (AV.bool (!(bM (l_.g i0).bl)))) f4)<|CC<|BC f5<|VV (cb 3 false true .i64 ((i0:Nat):Int) 0)<|CC<|BC f6<|BC f6<|BV f6 YP<|BV f6 Xb<|BC f6<|BM f6 Qt<|BC f6<|BM f6 (aX 3 0 (Zi (l_.g i0).time) fY k!)<|BV f6 (cb 3 false false .i64 (l_.g (i0 - 1)).time (l_.g i0).time)<|VV (nG (decide ((l_.g i0).time<((l_.g (i0 - 1)).time))) false f6)<|CC<|HH Qt<|HH (show AV.same 20 (Zi (l_.g (i0 - 1)).time) (Zi (l_.g (i0 - 1)).time)=true from aL 19 _ _)<|HH (aX 3 0 (Zi (l_.g i0).time) fY k!)<|HH (show AV.same 20 (Zi (l_.g i0).time) (Zi (l_.g i0).time)=true from aL 19 _ _)<|BC f7<|ZZ) k!) (⟨jK,iP,by omega⟩) k!
               · have aaM:=of_decide_eq_false f7
                 have Xc:=iD 3 false true i0 1 o!
                 exact aD.round (by simp only[aH,f1,f2,f3,f4,f5,f6,f7,ah,ae]) (pk (d+1) _ _ hh _ h8 (CN 2<|VV gB<|VV (bx 3 false false .i64 ((i0:Nat):Int) ((l_.length:Nat):Int))<|BB q2<|CN 2<|VV ma<|MM o_<|NN DZ (fun i=>(Pt i))<|SS yI<|CC<|MM (aX 3 0 (Zi (l_.g i0).time) fY k!)<|EE k9<|CN 2<|BC f1<|BM f1 (aX 2 4 (Zi (l_.g i0).number) fY k!)<|BB f1<|EE Be<|BC f1<|VV (az (a:=some (AV.bool true)) (b:=some (AV.bool (!(cF (l_.g i0).number)))) f1)<|CC<|BC f2<|MM (aX 9 1 (AV.str (l_.g i0).kind) fY k!)<|EE Rp<|CN 2<|BC f3<|BM f3 (aX 9 2 (AV.str (l_.g i0).item) fY k!)<|BB f3<|EE Ob<|BC f3<|VV (az (a:=some (AV.bool true)) (b:=some (AV.bool (!(bM (l_.g i0).item)))) f3)<|CC<|BC f4<|BM f4 (aX 9 3 (AV.str (l_.g i0).bl) fY k!)<|BB f4<|EE UT<|BC f4<|VV (az (a:=some (AV.bool true)) (b:=some (AV.bool (!(bM (l_.g i0).bl)))) f4)<|CC<|BC f5<|VV (cb 3 false true .i64 ((i0:Nat):Int) 0)<|CC<|BC f6<|BC f6<|BV f6 YP<|BV f6 Xb<|BC f6<|BM f6 Qt<|BC f6<|BM f6 (aX 3 0 (Zi (l_.g i0).time) fY k!)<|BV f6 (cb 3 false false .i64 (l_.g (i0 - 1)).time (l_.g i0).time)<|VV (nG (decide ((l_.g i0).time<((l_.g (i0 - 1)).time))) false f6)<|CC<|HH Qt<|HH (show AV.same 20 (Zi (l_.g (i0 - 1)).time) (Zi (l_.g (i0 - 1)).time)=true from aL 19 _ _)<|HH (aX 3 0 (Zi (l_.g i0).time) fY k!)<|HH (show AV.same 20 (Zi (l_.g i0).time) (Zi (l_.g i0).time)=true from aL 19 _ _)<|BC f7<|VV Xc<|CC<|ZZ) k!) (⟨jK,iP,by omega⟩) _ k! (fun x=>fu bw l_ aR eX (i0+1) o! x h8 jK (aF.trans iP))
             · have Nj:=of_decide_eq_false f6
               have YP:=iD 3 false true i0 1 o!
               exact aD.round (by simp only[aH,f1,f2,f3,f4,f5,f6,ah,ae]) (pk (d+1) _ _ hh _ h8 (CN 2<|VV gB<|VV (bx 3 false false .i64 ((i0:Nat):Int) ((l_.length:Nat):Int))<|BB q2<|CN 2<|VV ma<|MM o_<|NN DZ (fun i=>(Pt i))<|SS yI<|CC<|MM (aX 3 0 (Zi (l_.g i0).time) fY k!)<|EE k9<|CN 2<|BC f1<|BM f1 (aX 2 4 (Zi (l_.g i0).number) fY k!)<|BB f1<|EE Be<|BC f1<|VV (az (a:=some (AV.bool true)) (b:=some (AV.bool (!(cF (l_.g i0).number)))) f1)<|CC<|BC f2<|MM (aX 9 1 (AV.str (l_.g i0).kind) fY k!)<|EE Rp<|CN 2<|BC f3<|BM f3 (aX 9 2 (AV.str (l_.g i0).item) fY k!)<|BB f3<|EE Ob<|BC f3<|VV (az (a:=some (AV.bool true)) (b:=some (AV.bool (!(bM (l_.g i0).item)))) f3)<|CC<|BC f4<|BM f4 (aX 9 3 (AV.str (l_.g i0).bl) fY k!)<|BB f4<|EE UT<|BC f4<|VV (az (a:=some (AV.bool true)) (b:=some (AV.bool (!(bM (l_.g i0).bl)))) f4)<|CC<|BC f5<|VV (cb 3 false true .i64 ((i0:Nat):Int) 0)<|CC<|BB f6<|BB f6<|BB f6<|BB f6<|BB f6<|BB f6<|BB f6<|BB f6<|BV f6 (Bf false f6)<|CC<|FF<|CC<|VV YP<|CC<|ZZ) k!) (⟨jK,iP,by omega⟩) _ k! (fun x=>fu bw l_ aR eX (i0+1) o! x h8 jK (aF.trans iP))
def ao (l_:List Fact):Int:=(bif (decide (512<((l_.length:Nat):Int))) then 3 else (match (aH l_ l_.length 0) with | none=>0 | some rr3=>rr3))
theorem ep {d:Nat} {h:ag} {bw:AV} (l_:List Fact) (cc:ax h bw l_) (bK:Tidy h):cC (d+2) (.fn 9) [bw] h= .ret (Zi (ao l_)) h:=by
 have jN:=cc.small
 have gB:cV (some (.slice 40)) (some bw)=some (Zn l_.length):=cc.len
 rcases Bool.eq_false_or_eq_true (decide (512<((l_.length:Nat):Int))) with f0 | f0
 · have eg:=of_decide_eq_true f0
   have e:ao l_=3:=by simp only[ao,f0,ah,ae]
   rw[e]
   exact ar rfl (aE Tryz.func9 jO rfl (.inr rfl) (pk (d+1) _ _ h _ h (CN 2<|VV gB<|VV (cb 3 false true .i64 ((l_.length:Nat):Int) 512)<|BC f0<|ZZ) k!) k!) (Has.refl _) rfl
 · have eg:=of_decide_eq_false f0
   cases BF:aH l_ l_.length 0 with
   | none=>
     obtain ⟨RU,h4,lW,qT⟩:=aD.n BF (fu (d:=d) (h:=h) bw l_ cc l_.length 0 o! (fun k_=>((bw::AV.undef::(Zi 0)::(Zi 0)::AV.undef::bw::(Zn l_.length)::(AV.bool (decide (512<((l_.length:Nat):Int))))::ck 52):List AV).getD k_ AV.undef) h bK (Has.refl _))
     have Ga:=qT.y
     have Qu:h.nx≤h4.nx:=qT.n
     have uG:Has h h4:=qT.a
     have e:ao l_=0:=by simp only[ao,f0,BF,ah,ae]
     rw[e]
     exact ar rfl (aE Tryz.func9 jO rfl (.inr rfl) (pk (d+1) _ _ h _ h4 (CN 2<|VV gB<|VV (cb 3 false true .i64 ((l_.length:Nat):Int) 512)<|BC f0<|LL lW<|CC<|ZZ) k!) k!) uG rfl
   | some rr3=>
     obtain ⟨RU,h4,lW,qT⟩:=aD.r BF (fu (d:=d) (h:=h) bw l_ cc l_.length 0 o! (fun k_=>((bw::AV.undef::(Zi 0)::(Zi 0)::AV.undef::bw::(Zn l_.length)::(AV.bool (decide (512<((l_.length:Nat):Int))))::ck 52):List AV).getD k_ AV.undef) h bK (Has.refl _))
     have Ga:=qT.y
     have Qu:h.nx≤h4.nx:=qT.n
     have uG:Has h h4:=qT.a
     have e:ao l_=rr3:=by simp only[ao,f0,BF,ah,ae]
     rw[e]
     exact ar rfl (aE Tryz.func9 jO rfl (.inr rfl) (pk (d+1) _ _ h _ h4 (CN 2<|VV gB<|VV (cb 3 false true .i64 ((l_.length:Nat):Int) 512)<|BC f0<|LL lW<|ZZ) k!) k!) uG rfl
theorem xR {x:Fact} (h0:x.kind.length≤1000) (h1:x.item.length≤1000) (h2:x.bl.length≤1000):(cr x).length≤6000:=by
 have a:(aP 20 x.time).length≤20:=dK 20 _
 have b:(aP 20 x.number).length≤20:=dK 20 _
 simp only[cr,List.length_append,List.length_cons,List.length_nil];omega
theorem D0 {n:Int}:fV n=true↔0≤n∧n≤100000:=by
 rw[fV]
 by_cases a:0≤n
 · rw[decide_eq_true a,ah];exact ⟨fun h=>⟨a,of_decide_eq_true h⟩,fun h=>decide_eq_true h.2⟩
 · rw[decide_eq_false a,ae];exact ⟨fun h=>(by cases h),fun h=>absurd h.1 a⟩
theorem BG {n:Int}:cF n=true↔-1000000000000≤n∧n≤1000000000000:=by
 rw[cF]
 by_cases a: -1000000000000≤n
 · rw[decide_eq_true a,ah];exact ⟨fun h=>⟨a,of_decide_eq_true h⟩,fun h=>decide_eq_true h.2⟩
 · rw[decide_eq_false a,ae];exact ⟨fun h=>(by cases h),fun h=>absurd h.1 a⟩
theorem qU {s:List UInt8} (h:bM s=true):s.length≤16:=by
 rw[bM] at h
 by_cases a:((List.length s:Nat):Int)=0
 · omega
 · rw[decide_eq_false a,ae] at h
   by_cases b:(16:Int)<((List.length s:Nat):Int)
   · rw[decide_eq_true b] at h;cases h
   · omega
def TJ (f:Fact):Prop:=f.kind.length≤1000∧f.item.length≤1000∧f.bl.length≤1000∧0≤f.time∧f.time≤1000000∧-1000000000000≤f.number∧f.number≤1000000000000
def RF (l:List Fact) (i:Nat):Prop:=fV (l.g i).time=true∧cF (l.g i).number=true∧bM (l.g i).kind=true∧bM (l.g i).item=true∧bM (l.g i).bl=true∧(0<i→(l.g (i - 1)).time≤(l.g i).time)
theorem D1 {l:List Fact}:∀{k i:Nat},aH l k i=none→∀j,i≤j→j<i+k→RF l j
 | 0,i,_=>fun j p q=>by omega
 | k+1,i,h=>by
   rw[aH] at h
   cases h1:fV (l.g i).time with
   | false=>rw[h1] at h;cases h
   | true=>
   cases h2:cF (l.g i).number with
   | false=>rw[h1,h2] at h;cases h
   | true=>
   cases h3:bM (l.g i).kind with
   | false=>rw[h1,h2,h3] at h;cases h
   | true=>
   cases h4:bM (l.g i).item with
   | false=>rw[h1,h2,h3,h4] at h;cases h
   | true=>
   cases h5:bM (l.g i).bl with
   | false=>rw[h1,h2,h3,h4,h5] at h;cases h
   | true=>
   rw[h1,h2,h3,h4,h5] at h
   simp only[Bool.not_true,ae] at h
   have key:(0<i→(l.g (i - 1)).time≤(l.g i).time)∧aH l k (i+1)=none:=by
    by_cases a:(0:Int)<((i:Nat):Int)
    · rw[decide_eq_true a,ah] at h
      by_cases b:(l.g i).time<(l.g (i - 1)).time
      · rw[decide_eq_true b] at h;cases h
      · rw[decide_eq_false b,ae] at h;exact ⟨fun _=>by omega,h⟩
    · rw[decide_eq_false a,ae] at h;exact ⟨fun q=>by omega,h⟩
   intro j p q
   by_cases z:j=i
   · rw[z];exact ⟨h1,h2,h3,h4,h5,key.1⟩
   · exact D1 key.2 j o! o!
theorem xS {l:List Fact}:∀{k i:Nat} {r:Int},aH l k i=some r→r≠0
 | 0,i,r,h=>by cases h
 | k+1,i,r,h=>by
   rw[aH] at h
   cases h1:fV (l.g i).time with
   | false=>rw[h1] at h;cases h;decide
   | true=>
   cases h2:cF (l.g i).number with
   | false=>rw[h1,h2] at h;cases h;decide
   | true=>
   cases h3:bM (l.g i).kind with
   | false=>rw[h1,h2,h3] at h;cases h;decide
   | true=>
   cases h4:bM (l.g i).item with
   | false=>rw[h1,h2,h3,h4] at h;cases h;decide
   | true=>
   cases h5:bM (l.g i).bl with
   | false=>rw[h1,h2,h3,h4,h5] at h;cases h;decide
   | true=>
   rw[h1,h2,h3,h4,h5] at h
   simp only[Bool.not_true,ae] at h
   by_cases a:(0:Int)<((i:Nat):Int)
   · rw[decide_eq_true a,ah] at h
     by_cases b:(l.g i).time<(l.g (i - 1)).time
     · rw[decide_eq_true b] at h;cases h;decide
     · rw[decide_eq_false b,ae] at h;exact xS h
   · rw[decide_eq_false a,ae] at h;exact xS h
theorem D2 {l:List Fact} (h:ao l=0):l.length≤512∧∀i,i<l.length→RF l i:=by
 rw[ao] at h
 by_cases a:(512:Int)<((l.length:Nat):Int)
 · rw[decide_eq_true a] at h;cases h
 · rw[decide_eq_false a,ae] at h
   cases e:aH l l.length 0 with
   | none=>exact ⟨by omega,fun i hi=>D1 e i (Nat.zero_le _) o!⟩
   | some r=>rw[e] at h;exact absurd h (xS e)
theorem jw {l:List Fact} (h:ao l=0) (i:Nat) (hi:i<l.length):TJ (l.g i):=by
 obtain ⟨a,b,c,d,e,_⟩:=(D2 h).2 i hi
 have:=D0.1 a
 have:=BG.1 b
 have:=qU c
 have:=qU d
 have:=qU e
 exact ⟨by omega,by omega,by omega,by omega,by omega,by omega,by omega⟩
theorem di {l:List Fact} (h:ao l=0):l.length≤512:=(D2 h).1
theorem Qw (n:Int):fM n=fV n:=rfl
theorem I7 (n:Int):dC n=cF n:=rfl
theorem Nl {t:List UInt8}:∀(k i:Nat),1≤i→ez t k i=bF t k i
 | 0,i,_=>rfl
 | k+1,i,h=>by
   rw[ez,bF,Nl k (i+1) o!]
   generalize (((t.g i).toNat:Nat):Int)=x
   generalize bF t k (i+1)=R
   rw[(by by_cases q:x<97<;>simp [q]<;>omega:decide (97≤x)= !decide (x<97)),(by by_cases q:122<x<;>simp [q]<;>omega:decide (x≤122)= !decide (122<x)),(by by_cases q:x<48<;>simp [q]<;>omega:decide (48≤x)= !decide (x<48)),(by by_cases q:57<x<;>simp [q]<;>omega:decide (x≤57)= !decide (57<x)),decide_eq_false (by omega:¬((i:Int)=0))]
   cases decide (x<97)<;>cases decide (122<x)<;>cases decide (x<48)<;>cases decide (57<x)<;>cases decide (x=45)<;>rfl
theorem BH (t:List UInt8):cg t=bM t:=by
 cases t with
 | nil=>rfl
 | cons a t=>
   rw[cg,bM,decide_eq_false (by simp:¬(a::t=[])),decide_eq_false (by rw[List.length_cons];omega:¬(((List.length (a::t):Nat):Int)=0)),ae,ae,List.length_cons]
   rw[ez,bF,Nl t.length 1 o!]
   generalize ((((a::t).g 0).toNat:Nat):Int)=x
   generalize bF (a::t) t.length (0+1)=R
   rw[(by by_cases q:x<97<;>simp [q]<;>omega:decide (97≤x)= !decide (x<97)),(by by_cases q:122<x<;>simp [q]<;>omega:decide (x≤122)= !decide (122<x)),decide_eq_true (by omega:(((0:Nat):Int)=0))]
   cases decide ((16:Int)<((t.length+1:Nat):Int))<;>cases decide (x<97)<;>cases decide (122<x)<;>rfl
theorem HS {l:List Fact} {k j:Nat} (h:j<k):(l.take k).g j=l.g j:=by
 simp only[List.g,List.getD_eq_getElem?_getD,List.getElem?_take_of_lt h]
theorem RV {l:List Fact}:∀(k i:Nat),i+k=l.length→bj (fun jx=>aY (List.take jx l) (List.g l jx)) l k i=aH l k i
 | 0,i,_=>rfl
 | k+1,i,h=>by
   rw[bj,aH,RV k (i+1) o!,aY,Qw,I7,BH,BH,BH,List.length_take,Nat.min_eq_left o!]
   generalize aH l k (i+1)=R
   have e:0<i→(l.take i).g (i - 1)=l.g (i - 1):=fun hi=>HS o!
   cases fV (l.g i).time
   · rfl
   cases cF (l.g i).number
   · rfl
   cases bM (l.g i).kind
   · rfl
   cases bM (l.g i).item
   · rfl
   cases bM (l.g i).bl
   · rfl
   by_cases hi:(0:Int)<((i:Nat):Int)
   · rw[e o!,decide_eq_true hi]
     cases decide ((l.g i).time<(l.g (i - 1)).time)<;>rfl
   · rw[decide_eq_false hi];rfl
theorem j_ (l:List Fact):af l=ao l:=by
 rw[af,b9,ao,RV l.length 0 o!]
 try (cases aH l l.length 0<;>rfl)
theorem xU {f:Fact} (h0:f.kind.length≤1000) (h1:f.item.length≤1000) (h2:f.bl.length≤1000) (h3:0≤f.time) (h4:f.time≤1000000) (h5: -9223372036854775808≤f.number) (h6:f.number<9223372036854775808):(aM f).length≤6000:=by
 have a:(iJ f.time).length≤30:=rY o! o!
 have b:(mw f.number).length≤30:=rY o! o!
 have:=DS (a:=iJ f.time) (b:=f.kind) (c:=f.item) (d:=f.bl) (e:=mw f.number) (n:=1000) o! h0 h1 h2 o!
 rw[aM,List.length_append,List.length_cons,List.length_nil]
 omega
end
end Go.Proofs.aA
