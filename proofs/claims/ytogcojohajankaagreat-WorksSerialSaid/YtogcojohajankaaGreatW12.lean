import Derived.Test.YtogcojohajankaaGreatW0
import Derived.Test.YtogcojohajankaaGreatW1
import Derived.Test.YtogcojohajankaaGreatW11
import Derived.Test.YtogcojohajankaaGreatW6
import Derived.Test.YtogcojohajankaaGreatW4
import Derived.Test.YtogcojohajankaaGreatW5
namespace Go.Proofs.aJ
open Go.Proofs Ab
set_option maxRecDepth 100000
set_option maxHeartbeats 4000000
set_option linter.unusedVariables false
set_option linter.unusedSimpArgs false
noncomputable def nz:Code:=(Tryz.f19.body).getD .skip
theorem pM:Tryz.f19.body=some nz:=by kernel_rfl
noncomputable def OD:Code:=(bw nz).getD 0 .skip
noncomputable def OE:Code:=(bw nz).getD 1 .skip
noncomputable def OF:Code:=(bw nz).getD 2 .skip
noncomputable def OG:Code:=(bw nz).getD 3 .skip
def ir (i0:Nat) (j:cG):Nat→Nat→Option (Int)
 | 0,_=>none
 | nH+1,i1=>(bif (decide (((j.af.g i1).name)=((j.af.g i0).name))) then some 6 else ir i0 j nH (i1+1))
theorem Bo {d:Nat} {h:aw} (i0:Nat) (j:cG) (d_:Nat) (db:aM h j.ao j.ab) (ft:aM h j.ai j.af) (oJ:aG.ok h j) (AE:i0<j.af.length):∀(k_ i_:Nat) (_:i_+k_=i0) (x:Nat→AV) (hh:aw) (aA:Tidy hh) (ay:Has h hh) (cN:hh.get d_=some (aH.cells [j.ao,j.ai] 25 false)),aC (cU (d+2)) OE ⟨((x 0)::(Pt d_)::(x 2)::(Zn i0)::(Zn i_)::rx x 5 104 []),hh,[],.no⟩ (.exit 2) hh (fun y=>((y 0)::(Pt d_)::(y 2)::(Zn i0)::rx y 4 105 [])) (fun r y=>((y 0)::(Pt d_)::(Zi r)::(Zn i0)::rx y 4 105 [])) (ir i0 j k_ i_)
 | 0,i1,gq,x,hh,aA,ay,cN=>by
   have ik:=db.small
   have jY:=ft.small
   have tG:=aA _ _ cN
   have q1:(decide (((i1:Nat):Int)<((i0:Nat):Int)))=false:=d!
   exact aC.out rfl (pk (d+2) _ _ hh _ hh (CN 2<|VV (bO 3 false false .i64 ((i1:Nat):Int) ((i0:Nat):Int))<|BB q1<|ZZ) k!) (bp.refl aA) k!
 | nH+1,i1,gq,x,hh,aA,ay,cN=>by
   have ik:=db.small
   have jY:=ft.small
   have tG:=aA _ _ cN
   have q1:(decide (((i1:Nat):Int)<((i0:Nat):Int)))=true:=d!
   obtain ⟨p3,q4,cF⟩:=(ft.has ay).elem (i:=i1) o!
   have jL:bR env (some (.slice 36)) (some j.ai) (some (Zn i1))=some (AV.ptr p3 q4):=cF
   have j9:aY env hh 9 (AV.ptr p3 (q4+0))=some (AV.str ((j.af.g i1).name)):=(ft.has ay).part (t:=9) (j:=0) o! cF k! rfl
   obtain ⟨p7,q8,Bb⟩:=(ft.has ay).elem (i:=i0) o!
   have KN:bR env (some (.slice 36)) (some j.ai) (some (Zn i0))=some (AV.ptr p7 q8):=Bb
   have O2:aY env hh 9 (AV.ptr p7 (q8+0))=some (AV.str ((j.af.g i0).name)):=(ft.has ay).part (t:=9) (j:=0) o! Bb k! rfl
   have Z9:AV.same 20 j.ai j.ai=true:=(ft.has ay).same 19
   have dR:=fun {al ps} (k:Pk al _ ps)=>(CN 2<|VV (bO 3 false false .i64 ((i1:Nat):Int) ((i0:Nat):Int))<|BC q1<|MM (aI 23 1 j.ai cN k!)<|CC<|VV jL<|CC<|MM j9<|CC<|MM (aI 23 1 j.ai cN k!)<|CC<|VV KN<|CC<|MM O2<|VV (TX 9 false false ((j.af.g i1).name) ((j.af.g i0).name))<|HH (aI 23 1 j.ai cN k!)<|HH Z9<|HH j9<|HH (show AV.same 20 (AV.str ((j.af.g i1).name)) (AV.str ((j.af.g i1).name))=true from kS 19 _)<|HH (aI 23 1 j.ai cN k!)<|HH Z9<|HH O2<|HH (show AV.same 20 (AV.str ((j.af.g i0).name)) (AV.str ((j.af.g i0).name))=true from kS 19 _)<|k:Pk _ [] ps)
   rcases Bool.eq_false_or_eq_true (decide (((j.af.g i1).name)=((j.af.g i0).name))) with f1 | f1
   · have dQ:=of_decide_eq_true f1
     exact aC.ret 6 (by simp only[ir,f1,cond_true,cond_false]) (pk (d+2) _ _ hh _ hh (dR<|BC f1<|ZZ) k!) (bp.refl aA) k!
   · have dQ:=of_decide_eq_false f1
     have Yh:=dZ 3 false true i1 1 o!
     exact aC.round (by simp only[ir,f1,cond_true,cond_false]) (pk (d+2) _ _ hh _ hh (dR<|BC f1<|VV Yh<|CC<|ZZ) k!) (bp.refl aA) _ k! (fun x=>Bo i0 j d_ db ft oJ AE nH (i1+1) o! x hh aA ay cN)
def gA (j:cG):Nat→Nat→Option (Int)
 | 0,_=>none
 | cS+1,i0=>(bif (!(fG ((j.af.g i0).name))) then some 5 else (match (ir i0 j i0 0) with | none=>(bif (!decide ((bY (j.af.g i0))=0)) then some (bY (j.af.g i0)) else gA j cS (i0+1)) | some rr9=>some rr9))
theorem Bp {d:Nat} {h:aw} (j:cG) (a_:Nat) (bb:aM h j.ao j.ab) (cf:aM h j.ai j.af) (fW:aG.ok h j):∀(k_ i_:Nat) (_:i_+k_=j.af.length) (x:Nat→AV) (hh:aw) (aA:Tidy hh) (ay:Has h hh) (bh:hh.get a_=some (aH.cells [j.ao,j.ai] 25 false)),aC (cU (d+2)) OD ⟨((x 0)::(Pt a_)::(x 2)::(Zn i_)::rx x 4 105 []),hh,[],.no⟩ (.exit 0) hh (fun y=>((y 0)::(Pt a_)::rx y 2 107 [])) (fun r y=>((y 0)::(Pt a_)::(Zi r)::rx y 3 106 [])) (gA j k_ i_)
 | 0,i0,gq,x,hh,aA,ay,bh=>by
   have cr:=bb.small
   have eQ:=cf.small
   have ji:=aA _ _ bh
   have gL:cc (some (.slice 36)) (some j.ai)=some (Zn j.af.length):=(cf.has ay).len
   have q2:(decide (((i0:Nat):Int)<((j.af.length:Nat):Int)))=false:=d!
   exact aC.out rfl (pk (d+2) _ _ hh _ hh (CN 2<|MM (aI 23 1 j.ai bh k!)<|VV gL<|VV (bO 3 false false .i64 ((i0:Nat):Int) ((j.af.length:Nat):Int))<|BB q2<|ZZ) k!) (bp.refl aA) k!
 | cS+1,i0,gq,x,hh,aA,ay,bh=>by
   have cr:=bb.small
   have eQ:=cf.small
   have ji:=aA _ _ bh
   have gL:cc (some (.slice 36)) (some j.ai)=some (Zn j.af.length):=(cf.has ay).len
   have q2:(decide (((i0:Nat):Int)<((j.af.length:Nat):Int)))=true:=d!
   obtain ⟨p4,q5,jE⟩:=(cf.has ay).elem (i:=i0) o!
   have vP:bR env (some (.slice 36)) (some j.ai) (some (Zn i0))=some (AV.ptr p4 q5):=jE
   have rC:aY env hh 9 (AV.ptr p4 (q5+0))=some (AV.str ((j.af.g i0).name)):=(cf.has ay).part (t:=9) (j:=0) o! jE k! rfl
   have k7:=OC (d:=d+1) ((j.af.g i0).name) ((cf.has ay).ok (i:=i0) o!).1 aA
   have hI:=fun {al ps} (k:Pk al _ ps)=>(CN 2<|MM (aI 23 1 j.ai bh k!)<|VV gL<|VV (bO 3 false false .i64 ((i0:Nat):Int) ((j.af.length:Nat):Int))<|BC q2<|MM (aI 23 1 j.ai bh k!)<|CC<|VV vP<|CC<|MM rC<|EE k7<|CC<|k:Pk _ [] ps)
   rcases Bool.eq_false_or_eq_true (!(fG ((j.af.g i0).name))) with f1 | f1
   · exact aC.ret 5 (by simp only[gA,f1,cond_true,cond_false]) (pk (d+2) _ _ hh _ hh (hI<|BC f1<|ZZ) k!) (bp.refl aA) k!
   · have aiL:=Bo (d:=d) (h:=hh) i0 j a_ (bb.has ay) (cf.has ay) (aG.mono ay fW) o! i0 0 o! (fun k_=>(((x 0)::(Pt a_)::(x 2)::(Zn i0)::(Zi 0)::rx x 5 8 ((Zn i0)::(AV.ptr a_ 1)::j.ai::(Zn j.af.length)::(AV.bool (decide (((i0:Nat):Int)<((j.af.length:Nat):Int))))::(x 18)::(x 19)::(AV.ptr a_ 1)::j.ai::(Zn i0)::(AV.ptr p4 q5)::(AV.ptr p4 (q5+0))::(AV.str ((j.af.g i0).name))::(AV.bool (fG ((j.af.g i0).name)))::(AV.bool (!(fG ((j.af.g i0).name))))::rx x 28 81 [])):List AV).getD k_ AV.undef) hh aA (Has.refl _) bh
     cases qx:ir i0 j i0 0 with
     | none=>
       obtain ⟨yl9,qE,zB,lL⟩:=aC.n qx aiL
       have kU:=lL.y
       have Y5:hh.nx≤qE.nx:=lL.n
       have jm:Has hh qE:=lL.a
       obtain ⟨X7,X8,v8⟩:=(cf.has ay).elem (i:=i0) o!
       have Lb:bR env (some (.slice 36)) (some j.ai) (some (Zn i0))=some (AV.ptr X7 X8):=v8
       have Lc:aY env qE 36 (AV.ptr X7 X8)=some (AV.agg [(AV.str ((j.af.g i0).name)),(Zi ((j.af.g i0).aB)),((j.af.g i0).dp)]):=((cf.has ay).has jm).load o! v8
       have k15:=Bl (d:=d) (j.af.g i0) (aG.mono jm ((cf.has ay).ok (i:=i0) o!)) kU
       have mH:=fun {al ps} (k:Pk al _ ps)=>(hI<|BC f1<|LL zB<|CC<|MM (aI 23 1 j.ai (lL.a _ _ bh) k!)<|CC<|VV Lb<|MM Lc<|EE k15<|CN 2<|VV (pa 29 false true .i64 (bY (j.af.g i0)) 0)<|k:Pk _ [] ps)
       rcases Bool.eq_false_or_eq_true (!decide ((bY (j.af.g i0))=0)) with f3 | f3
       · have lV:=HJ f3
         exact aC.ret (bY (j.af.g i0)) (by simp only[gA,f1,qx,f3,cond_true,cond_false]) (pk (d+2) _ _ hh _ qE (mH<|BB f3<|CN 2<|ZZ) k!) (⟨kU,jm,by omega⟩) k!
       · have lV:=HK f3
         have u17:=dZ 3 false true i0 1 o!
         exact aC.round (by simp only[gA,f1,qx,f3,cond_true,cond_false]) (pk (d+2) _ _ hh _ qE (mH<|BC f3<|VV u17<|CC<|ZZ) k!) (⟨kU,jm,by omega⟩) _ k! (fun x=>Bp j a_ bb cf fW cS (i0+1) o! x qE kU (ay.trans jm) (lL.a _ _ bh))
     | some rr9=>
       obtain ⟨yl9,qE,zB,lL⟩:=aC.r qx aiL
       have kU:=lL.y
       have Y5:hh.nx≤qE.nx:=lL.n
       have jm:Has hh qE:=lL.a
       exact aC.ret rr9 (by simp only[gA,f1,qx,cond_true,cond_false]) (pk (d+2) _ _ hh _ qE (hI<|BC f1<|LL zB<|ZZ) k!) (⟨kU,jm,by omega⟩) k!
def iu (i2:Nat) (j:cG):Nat→Nat→Option (Int)
 | 0,_=>none
 | N'+1,i3=>(bif (decide (((j.ab.g i3).name)=((j.ab.g i2).name))) then some 6 else iu i2 j N' (i3+1))
theorem Bq {d:Nat} {h:aw} (i2:Nat) (j:cG) (sD:Nat) (oV:aM h j.ao j.ab) (wk:aM h j.ai j.af) (Ln:aG.ok h j) (Y3:i2<j.ab.length):∀(k_ i_:Nat) (_:i_+k_=i2) (x:Nat→AV) (hh:aw) (aA:Tidy hh) (ay:Has h hh) (nK:hh.get sD=some (aH.cells [j.ao,j.ai] 25 false)),aC (cU (d+2)) OG ⟨((x 0)::(Pt sD)::rx x 2 4 ((Zn i2)::(Zn i_)::rx x 8 101 [])),hh,[],.no⟩ (.exit 6) hh (fun y=>((y 0)::(Pt sD)::rx y 2 4 ((Zn i2)::rx y 7 102 []))) (fun r y=>((y 0)::(Pt sD)::(Zi r)::rx y 3 3 ((Zn i2)::rx y 7 102 []))) (iu i2 j k_ i_)
 | 0,i3,gq,x,hh,aA,ay,nK=>by
   have GP:=oV.small
   have GQ:=wk.small
   have Yt:=aA _ _ nK
   have q1:(decide (((i3:Nat):Int)<((i2:Nat):Int)))=false:=d!
   exact aC.out rfl (pk (d+2) _ _ hh _ hh (CN 2<|VV (bO 3 false false .i64 ((i3:Nat):Int) ((i2:Nat):Int))<|BB q1<|ZZ) k!) (bp.refl aA) k!
 | N'+1,i3,gq,x,hh,aA,ay,nK=>by
   have GP:=oV.small
   have GQ:=wk.small
   have Yt:=aA _ _ nK
   have q1:(decide (((i3:Nat):Int)<((i2:Nat):Int)))=true:=d!
   obtain ⟨p3,q4,cF⟩:=(oV.has ay).elem (i:=i3) o!
   have jL:bR env (some (.slice 39)) (some j.ao) (some (Zn i3))=some (AV.ptr p3 q4):=cF
   have j9:aY env hh 9 (AV.ptr p3 (q4+0))=some (AV.str ((j.ab.g i3).name)):=(oV.has ay).part (t:=9) (j:=0) o! cF k! rfl
   obtain ⟨p7,q8,Bb⟩:=(oV.has ay).elem (i:=i2) o!
   have KN:bR env (some (.slice 39)) (some j.ao) (some (Zn i2))=some (AV.ptr p7 q8):=Bb
   have O2:aY env hh 9 (AV.ptr p7 (q8+0))=some (AV.str ((j.ab.g i2).name)):=(oV.has ay).part (t:=9) (j:=0) o! Bb k! rfl
   have Z9:AV.same 20 j.ao j.ao=true:=(oV.has ay).same 19
   have vc:=fun {al ps} (k:Pk al _ ps)=>(CN 2<|VV (bO 3 false false .i64 ((i3:Nat):Int) ((i2:Nat):Int))<|BC q1<|MM (aI 22 0 j.ao nK k!)<|CC<|VV jL<|CC<|MM j9<|CC<|MM (aI 22 0 j.ao nK k!)<|CC<|VV KN<|CC<|MM O2<|VV (TX 9 false false ((j.ab.g i3).name) ((j.ab.g i2).name))<|HH (aI 22 0 j.ao nK k!)<|HH Z9<|HH j9<|HH (show AV.same 20 (AV.str ((j.ab.g i3).name)) (AV.str ((j.ab.g i3).name))=true from kS 19 _)<|HH (aI 22 0 j.ao nK k!)<|HH Z9<|HH O2<|HH (show AV.same 20 (AV.str ((j.ab.g i2).name)) (AV.str ((j.ab.g i2).name))=true from kS 19 _)<|k:Pk _ [] ps)
   rcases Bool.eq_false_or_eq_true (decide (((j.ab.g i3).name)=((j.ab.g i2).name))) with f1 | f1
   · have dQ:=of_decide_eq_true f1
     exact aC.ret 6 (by simp only[iu,f1,cond_true,cond_false]) (pk (d+2) _ _ hh _ hh (vc<|BC f1<|ZZ) k!) (bp.refl aA) k!
   · have dQ:=of_decide_eq_false f1
     have Yh:=dZ 3 false true i3 1 o!
     exact aC.round (by simp only[iu,f1,cond_true,cond_false]) (pk (d+2) _ _ hh _ hh (vc<|BC f1<|VV Yh<|CC<|ZZ) k!) (bp.refl aA) _ k! (fun x=>Bq i2 j sD oV wk Ln Y3 N' (i3+1) o! x hh aA ay nK)
def fu (j:cG):Nat→Nat→Option (Int)
 | 0,_=>none
 | Cw+1,i2=>(bif (!(fG ((j.ab.g i2).name))) then some 5 else (match (iu i2 j i2 0) with | none=>(bif (!decide ((cR j (j.ab.g i2))=0)) then some (cR j (j.ab.g i2)) else fu j Cw (i2+1)) | some rr9=>some rr9))
theorem Br {d:Nat} {h:aw} (j:cG) (kZ:Nat) (ky:aM h j.ao j.ab) (mQ:aM h j.ai j.af) (va:aG.ok h j):∀(k_ i_:Nat) (_:i_+k_=j.ab.length) (x:Nat→AV) (hh:aw) (aA:Tidy hh) (ay:Has h hh) (iz:hh.get kZ=some (aH.cells [j.ao,j.ai] 25 false)),aC (cU (d+2)) OF ⟨((x 0)::(Pt kZ)::rx x 2 4 ((Zn i_)::rx x 7 102 [])),hh,[],.no⟩ (.exit 4) hh (fun y=>((y 0)::(Pt kZ)::rx y 2 107 [])) (fun r y=>((y 0)::(Pt kZ)::(Zi r)::rx y 3 106 [])) (fu j k_ i_)
 | 0,i2,gq,x,hh,aA,ay,iz=>by
   have zr:=ky.small
   have zt:=mQ.small
   have QD:=aA _ _ iz
   have gL:cc (some (.slice 39)) (some j.ao)=some (Zn j.ab.length):=(ky.has ay).len
   have q2:(decide (((i2:Nat):Int)<((j.ab.length:Nat):Int)))=false:=d!
   exact aC.out rfl (pk (d+2) _ _ hh _ hh (CN 2<|MM (aI 22 0 j.ao iz k!)<|VV gL<|VV (bO 3 false false .i64 ((i2:Nat):Int) ((j.ab.length:Nat):Int))<|BB q2<|ZZ) k!) (bp.refl aA) k!
 | Cw+1,i2,gq,x,hh,aA,ay,iz=>by
   have zr:=ky.small
   have zt:=mQ.small
   have QD:=aA _ _ iz
   have gL:cc (some (.slice 39)) (some j.ao)=some (Zn j.ab.length):=(ky.has ay).len
   have q2:(decide (((i2:Nat):Int)<((j.ab.length:Nat):Int)))=true:=d!
   obtain ⟨p4,q5,jE⟩:=(ky.has ay).elem (i:=i2) o!
   have vP:bR env (some (.slice 39)) (some j.ao) (some (Zn i2))=some (AV.ptr p4 q5):=jE
   have rC:aY env hh 9 (AV.ptr p4 (q5+0))=some (AV.str ((j.ab.g i2).name)):=(ky.has ay).part (t:=9) (j:=0) o! jE k! rfl
   have k7:=OC (d:=d+1) ((j.ab.g i2).name) ((ky.has ay).ok (i:=i2) o!).1 aA
   have zI:=fun {al ps} (k:Pk al _ ps)=>(CN 2<|MM (aI 22 0 j.ao iz k!)<|VV gL<|VV (bO 3 false false .i64 ((i2:Nat):Int) ((j.ab.length:Nat):Int))<|BC q2<|MM (aI 22 0 j.ao iz k!)<|CC<|VV vP<|CC<|MM rC<|EE k7<|CC<|k:Pk _ [] ps)
   rcases Bool.eq_false_or_eq_true (!(fG ((j.ab.g i2).name))) with f1 | f1
   · exact aC.ret 5 (by simp only[fu,f1,cond_true,cond_false]) (pk (d+2) _ _ hh _ hh (zI<|BC f1<|ZZ) k!) (bp.refl aA) k!
   · have Y2:=Bq (d:=d) (h:=hh) i2 j kZ (ky.has ay) (mQ.has ay) (aG.mono ay va) o! i2 0 o! (fun k_=>(((x 0)::(Pt kZ)::rx x 2 4 ((Zn i2)::(Zi 0)::rx x 8 51 ((Zn i2)::(Pt kZ)::j.ao::(Zn j.ab.length)::(AV.bool (decide (((i2:Nat):Int)<((j.ab.length:Nat):Int))))::(x 64)::(x 65)::(Pt kZ)::j.ao::(Zn i2)::(AV.ptr p4 q5)::(AV.ptr p4 (q5+0))::(AV.str ((j.ab.g i2).name))::(AV.bool (fG ((j.ab.g i2).name)))::(AV.bool (!(fG ((j.ab.g i2).name))))::rx x 74 35 []))):List AV).getD k_ AV.undef) hh aA (Has.refl _) iz
     cases qx:iu i2 j i2 0 with
     | none=>
       obtain ⟨yl9,qE,zB,lL⟩:=aC.n qx Y2
       have kU:=lL.y
       have Y5:hh.nx≤qE.nx:=lL.n
       have jm:Has hh qE:=lL.a
       obtain ⟨X7,X8,v8⟩:=(ky.has ay).elem (i:=i2) o!
       have Lb:bR env (some (.slice 39)) (some j.ao) (some (Zn i2))=some (AV.ptr X7 X8):=v8
       have Lc:aY env qE 39 (AV.ptr X7 X8)=some (AV.agg [(AV.str ((j.ab.g i2).name)),(Zi ((j.ab.g i2).takes)),((j.ab.g i2).aO),((j.ab.g i2).aS)]):=((ky.has ay).has jm).load o! v8
       have k15:=Ii (d:=d) j (j.ab.g i2) (aG.mono jm (aG.mono ay va)) (aG.mono jm ((ky.has ay).ok (i:=i2) o!)) kU
       have QG:AV.same 20 (AV.agg [j.ao,j.ai]) (AV.agg [j.ao,j.ai])=true:=jy 18 (xh (ky.has ay).same (xh (mQ.has ay).same TY))
       have c17:AV.same 20 j.ao j.ao=true:=(ky.has ay).same 19
       have c18:AV.same 20 (AV.agg [(AV.str ((j.ab.g i2).name)),(Zi ((j.ab.g i2).takes)),((j.ab.g i2).aO),((j.ab.g i2).aS)]) (AV.agg [(AV.str ((j.ab.g i2).name)),(Zi ((j.ab.g i2).takes)),((j.ab.g i2).aO),((j.ab.g i2).aS)])=true:=jy 18 (xh (fun n=>kS n _) (xh (fun n=>aK n _ _) (xh (((ky.has ay).ok (i:=i2) o!).2.1).same (xh (((ky.has ay).ok (i:=i2) o!).2.2).same TY))))
       have QF:=fun {al ps} (k:Pk al _ ps)=>(zI<|BC f1<|LL zB<|MM (aI 25 0 (AV.agg [j.ao,j.ai]) (lL.a _ _ iz) k!)<|CC<|MM (aI 22 0 j.ao (lL.a _ _ iz) k!)<|CC<|VV Lb<|MM Lc<|EE k15<|CC<|HH (aI 25 0 (AV.agg [j.ao,j.ai]) (lL.a _ _ iz) k!)<|HH QG<|HH (aI 22 0 j.ao (lL.a _ _ iz) k!)<|HH c17<|HH Lc<|HH c18<|CC<|VV (pa 29 false true .i64 (cR j (j.ab.g i2)) 0)<|k:Pk _ [] ps)
       rcases Bool.eq_false_or_eq_true (!decide ((cR j (j.ab.g i2))=0)) with f3 | f3
       · have lV:=HJ f3
         exact aC.ret (cR j (j.ab.g i2)) (by simp only[fu,f1,qx,f3,cond_true,cond_false]) (pk (d+2) _ _ hh _ qE (QF<|BB f3<|CN 2<|ZZ) k!) (⟨kU,jm,by omega⟩) k!
       · have lV:=HK f3
         have u20:=dZ 3 false true i2 1 o!
         exact aC.round (by simp only[fu,f1,qx,f3,cond_true,cond_false]) (pk (d+2) _ _ hh _ qE (QF<|BC f3<|VV u20<|CC<|ZZ) k!) (⟨kU,jm,by omega⟩) _ k! (fun x=>Br j kZ ky mQ va Cw (i2+1) o! x qE kU (ay.trans jm) (lL.a _ _ iz))
     | some rr9=>
       obtain ⟨yl9,qE,zB,lL⟩:=aC.r qx Y2
       have kU:=lL.y
       have Y5:hh.nx≤qE.nx:=lL.n
       have jm:Has hh qE:=lL.a
       exact aC.ret rr9 (by simp only[fu,f1,qx,cond_true,cond_false]) (pk (d+2) _ _ hh _ qE (zI<|BC f1<|LL zB<|ZZ) k!) (⟨kU,jm,by omega⟩) k!
theorem yi {i2:Nat} {j:cG}:∀{k i:Nat} {r:Int},iu i2 j k i=some r→r≠0
 | 0,i,r,h=>by cases h
 | k+1,i,r,h=>by
   rw[iu] at h
   cases q:decide ((j.ab.g i).name=(j.ab.g i2).name) with
   | true=>rw[q] at h;cases h;decide
   | false=>rw[q] at h;exact yi (k:=k) h
theorem oi {j:cG}:∀{k i:Nat},(fu j k i=none→∀t,i≤t→t<i+k→cR j (j.ab.g t)=0)∧(∀r,fu j k i=some r→r≠0)
 | 0,i=>⟨fun _ q h1 h2=>by omega,fun r h=>by cases h⟩
 | k+1,i=>by
   have ih:=oi (j:=j) (k:=k) (i:=i+1)
   rw[fu]
   cases a:fG (j.ab.g i).name with
   | false=>exact ⟨(fun h=>by cases h),(fun r h=>by cases h;decide)⟩
   | true=>
     cases b:iu i j i 0 with
     | some r0=>exact ⟨(fun h=>by cases h),(fun r h=>by cases h;exact yi b)⟩
     | none=>
       by_cases c:cR j (j.ab.g i)=0
       · rw[decide_eq_true c]
         refine ⟨fun h q h1 h2=>?_,ih.2⟩
         by_cases e:q=i
         · rw[e];exact c
         · exact ih.1 h q o! o!
       · rw[decide_eq_false c]
         exact ⟨(fun h=>by cases h),(fun r h=>by cases h;exact c)⟩
theorem G' {j:cG} (h:fu j j.ab.length 0=none):∀i,i<j.ab.length→∀q,q<(j.ab.g i).ax.length→0≤(j.ab.g i).ax.g q∧(j.ab.g i).ax.g q<(j.ab.length:Int):=fun i hi=>(wD (oi.1 h i o! o!)).2.1
def ek (j:cG):Int:=(bif (decide (16<((j.af.length:Nat):Int))) then 3 else (match (gA j j.af.length 0) with | none=>(bif (decide (64<((j.ab.length:Nat):Int))) then 3 else (match (fu j j.ab.length 0) with | none=>(bif (!decide ((((gr j).length:Nat):Int)=((j.ab.length:Nat):Int))) then 11 else 0) | some rr8=>rr8)) | some y8=>y8))
theorem UO {d:Nat} {h:aw} (j:cG) (bZ:aG.ok h j) (ct:Tidy h):cU (d+3) (.fn 19) [(AV.agg [j.ao,j.ai])] h= .ret (Zi (ek j)) h:=by
 have eT:=bZ.1.small
 have eU:=bZ.2.small
 obtain ⟨h1,dH,cP,kr,bk,bW⟩:=kh ct (aH.cells [j.ao,j.ai] 25 false)
 have bB:Has h h1:=bW
 have K5:cc (some (.slice 36)) (some j.ai)=some (Zn j.af.length):=bZ.2.len
 have Oa:=fun {al ps} (k:Pk al _ ps)=>(NN dH (fun i=>(Pt i))<|CN 2<|MM (aI 23 1 j.ai bk k!)<|VV K5<|VV (dw 3 false true .i64 ((j.af.length:Nat):Int) 16)<|k:Pk _ [] ps)
 rcases Bool.eq_false_or_eq_true (decide (16<((j.af.length:Nat):Int))) with f0 | f0
 · have dx:=of_decide_eq_true f0
   have e:ek j=3:=by simp only[ek,f0,cond_true,cond_false]
   rw[e]
   exact aE rfl (aZ Tryz.func19 pM rfl (.inr rfl) (pk (d+2) _ _ h _ h1 (Oa<|BC f0<|ZZ) k!) k!) bB rfl
 · have dx:=of_decide_eq_false f0
   have Y4:=Bp (d:=d) (h:=h) j h.nx bZ.1 bZ.2 bZ j.af.length 0 o! (fun k_=>(((AV.agg [j.ao,j.ai])::(Pt h.nx)::(Zi 0)::(Zi 0)::AV.undef::AV.undef::AV.undef::AV.undef::AV.undef::(AV.ptr h.nx 1)::j.ai::(Zn j.af.length)::(AV.bool (decide (16<((j.af.length:Nat):Int))))::lk 96):List AV).getD k_ AV.undef) h1 cP bB bk
   cases dg:gA j j.af.length 0 with
   | none=>
     obtain ⟨xB,h5,dX,dC⟩:=aC.n dg Y4
     have kK:=dC.y
     have tC:h1.nx≤h5.nx:=dC.n
     have gE:Has h h5:=bB.trans dC.a
     have Si:cc (some (.slice 39)) (some j.ao)=some (Zn j.ab.length):=bZ.1.len
     have Vf:=fun {al ps} (k:Pk al _ ps)=>(Oa<|BC f0<|LL dX<|CC<|MM (aI 22 0 j.ao (dC.a _ _ bk) k!)<|VV Si<|VV (dw 3 false true .i64 ((j.ab.length:Nat):Int) 64)<|k:Pk _ [] ps)
     rcases Bool.eq_false_or_eq_true (decide (64<((j.ab.length:Nat):Int))) with f2 | f2
     · have jZ:=of_decide_eq_true f2
       have e:ek j=3:=by simp only[ek,f0,dg,f2,cond_true,cond_false]
       rw[e]
       exact aE rfl (aZ Tryz.func19 pM rfl (.inr rfl) (pk (d+2) _ _ h _ h5 (Vf<|BC f2<|ZZ) k!) k!) gE rfl
     · have jZ:=of_decide_eq_false f2
       have Oc:=Br (d:=d) (h:=h) j h.nx bZ.1 bZ.2 bZ j.ab.length 0 o! (fun k_=>(((xB 0)::(Pt h.nx)::rx xB 2 4 ((Zi 0)::rx xB 7 48 ((Pt h.nx)::j.ao::(Zn j.ab.length)::(AV.bool (decide (64<((j.ab.length:Nat):Int))))::rx xB 59 50 []))):List AV).getD k_ AV.undef) h5 kK gE (dC.a _ _ bk)
       cases rJ:fu j j.ab.length 0 with
       | none=>
         obtain ⟨yl8,h9,tD,mf⟩:=aC.n rJ Oc
         have pF:=mf.y
         have KQ:h5.nx≤h9.nx:=mf.n
         have my:Has h h9:=gE.trans mf.a
         have Eh:Has h5 h9:=mf.a
         have xK:cc (some (.slice 39)) (some j.ao)=some (Zn j.ab.length):=bZ.1.len
         obtain ⟨z11,lU,OH,fI,aiM,al8⟩:=Qv (d:=d) j (aG.mono my bZ) (by first | omega | assumption | exact G' (by assumption)) (by first | omega | assumption | exact G' (by assumption)) pF
         have g7:=fI.y
         have Jy:h9.nx≤lU.nx:=fI.n
         have iB:Has h lU:=my.trans fI.a
         have aiN:Has h5 lU:=Eh.trans fI.a
         have aiO:Has h9 lU:=fI.a
         have alh:=aiM.small
         have XK:cc (some (.slice 3)) (some z11)=some (Zn ((gr j).length)):=aiM.len
         have c15:AV.same 20 (AV.agg [j.ao,j.ai]) (AV.agg [j.ao,j.ai])=true:=jy 18 (xh bZ.1.same (xh bZ.2.same TY))
         have QG:AV.same 20 j.ao j.ao=true:=bZ.1.same 19
         have Yv:=fun {al ps} (k:Pk al _ ps)=>(Vf<|BC f2<|LL tD<|MM (aI 25 0 (AV.agg [j.ao,j.ai]) (mf.a _ _ (dC.a _ _ bk)) k!)<|CC<|MM (aI 22 0 j.ao (mf.a _ _ (dC.a _ _ bk)) k!)<|VV xK<|EE OH<|VV XK<|VV (pa 3 false false .i64 (((gr j).length:Nat):Int) ((j.ab.length:Nat):Int))<|HH (aI 25 0 (AV.agg [j.ao,j.ai]) (mf.a _ _ (dC.a _ _ bk)) k!)<|HH c15<|HH (aI 22 0 j.ao (mf.a _ _ (dC.a _ _ bk)) k!)<|HH QG<|HH (aI 22 0 j.ao (fI.a _ _ (mf.a _ _ (dC.a _ _ bk))) k!)<|HH QG<|k:Pk _ [] ps)
         rcases Bool.eq_false_or_eq_true (!decide ((((gr j).length:Nat):Int)=((j.ab.length:Nat):Int))) with f4 | f4
         · have rE:=HJ f4
           have e:ek j=11:=by simp only[ek,f0,dg,f2,rJ,f4,cond_true,cond_false]
           rw[e]
           exact aE rfl (aZ Tryz.func19 pM rfl (.inr rfl) (pk (d+2) _ _ h _ lU (Yv<|BC f4<|ZZ) k!) k!) iB rfl
         · have rE:=HK f4
           have e:ek j=0:=by simp only[ek,f0,dg,f2,rJ,f4,cond_true,cond_false]
           rw[e]
           exact aE rfl (aZ Tryz.func19 pM rfl (.inr rfl) (pk (d+2) _ _ h _ lU (Yv<|BC f4<|ZZ) k!) k!) iB rfl
       | some rr8=>
         obtain ⟨yl8,h9,tD,mf⟩:=aC.r rJ Oc
         have pF:=mf.y
         have KQ:h5.nx≤h9.nx:=mf.n
         have my:Has h h9:=gE.trans mf.a
         have Eh:Has h5 h9:=mf.a
         have e:ek j=rr8:=by simp only[ek,f0,dg,f2,rJ,cond_true,cond_false]
         rw[e]
         exact aE rfl (aZ Tryz.func19 pM rfl (.inr rfl) (pk (d+2) _ _ h _ h9 (Vf<|BC f2<|LL tD<|ZZ) k!) k!) my rfl
   | some y8=>
     obtain ⟨xB,h5,dX,dC⟩:=aC.r dg Y4
     have kK:=dC.y
     have tC:h1.nx≤h5.nx:=dC.n
     have gE:Has h h5:=bB.trans dC.a
     have e:ek j=y8:=by simp only[ek,f0,dg,cond_true,cond_false]
     rw[e]
     exact aE rfl (aZ Tryz.func19 pM rfl (.inr rfl) (pk (d+2) _ _ h _ h5 (Oa<|BC f0<|LL dX<|ZZ) k!) k!) gE rfl
theorem Ha {p:Prop} (h:p:=by first | omega | assumption | exact zl (by assumption) | exact N2 (by assumption)):p:=h
noncomputable def LM:Code:=(Tryz.f15.body).getD .skip
theorem xu:Tryz.f15.body=some LM:=by kernel_rfl
def fD (j:cG):Int:=(bif (!decide ((bJ j.af 16 (fun jx=>bA (List.take jx j.af) (List.g j.af jx)))=0)) then (bJ j.af 16 (fun jx=>bA (List.take jx j.af) (List.g j.af jx))) else (bif (!decide ((bX j.ab 64 (fun jx=>fS (List.take jx j.ab) (List.g j.ab jx) j))=0)) then (bX j.ab 64 (fun jx=>fS (List.take jx j.ab) (List.g j.ab jx) j)) else (bif (decide ((((eX j.ab).length:Nat):Int)<((j.ab.length:Nat):Int))) then 11 else 0)))
theorem Jz {d:Nat} {h:aw} (j:cG) (bZ:aG.ok h j) (ct:Tidy h):cU (d+11) (.fn 15) [(AV.agg [j.ao,j.ai])] h= .ret (Zi (fD j)) h:=by
 have eT:=bZ.1.small
 have eU:=bZ.2.small
 obtain ⟨h1,dH,cP,kr,bk,bW⟩:=kh ct (aH.cells [j.ao,j.ai] 25 false)
 have bB:Has h h1:=bW
 have k2:=uY (d:=d+9) j.af 16 (fun jx=>bA (List.take jx j.af) (List.g j.af jx)) (bZ.2.has bB) (fun jx hj aV hh yy aa fa=>AZ (d:=d+3) (List.take jx j.af) (List.g j.af jx) fa (aG.mono aa ((bZ.2.has bB).ok hj)) yy) cP
 have dR:=fun {al ps} (k:Pk al _ ps)=>(NN dH (fun i=>(Pt i))<|CN 2<|MM (aI 23 1 j.ai bk k!)<|EE k2<|CN 2<|VV (pa 29 false true .i64 (bJ j.af 16 (fun jx=>bA (List.take jx j.af) (List.g j.af jx))) 0)<|k:Pk _ [] ps)
 rcases Bool.eq_false_or_eq_true (!decide ((bJ j.af 16 (fun jx=>bA (List.take jx j.af) (List.g j.af jx)))=0)) with f0 | f0
 · have dx:=HJ f0
   have e:fD j=(bJ j.af 16 (fun jx=>bA (List.take jx j.af) (List.g j.af jx))):=by simp only[fD,f0,cond_true,cond_false]
   rw[e]
   exact aE rfl (aZ Tryz.func15 xu rfl (.inr rfl) (pk (d+10) _ _ h _ h1 (dR<|BB f0<|CN 2<|ZZ) k!) k!) bB rfl
 · have dx:=HK f0
   have k4:=AW (d:=d+9) j.ab 64 (fun jx=>fS (List.take jx j.ab) (List.g j.ab jx) j) (bZ.1.has bB) (fun jx hj aV hh yy aa fa=>Qg (d:=d) (List.take jx j.ab) (List.g j.ab jx) j h.nx fa (aG.mono aa ((bZ.1.has bB).ok hj)) (aG.mono aa (aG.mono bB bZ)) (aa _ _ bk) yy) cP
   have hI:=fun {al ps} (k:Pk al _ ps)=>(dR<|BC f0<|MM (aI 22 0 j.ao bk k!)<|CC<|EE k4<|CN 2<|VV (pa 29 false true .i64 (bX j.ab 64 (fun jx=>fS (List.take jx j.ab) (List.g j.ab jx) j)) 0)<|k:Pk _ [] ps)
   rcases Bool.eq_false_or_eq_true (!decide ((bX j.ab 64 (fun jx=>fS (List.take jx j.ab) (List.g j.ab jx) j))=0)) with f1 | f1
   · have dQ:=HJ f1
     have e:fD j=(bX j.ab 64 (fun jx=>fS (List.take jx j.ab) (List.g j.ab jx) j)):=by simp only[fD,f0,f1,cond_true,cond_false]
     rw[e]
     exact aE rfl (aZ Tryz.func15 xu rfl (.inr rfl) (pk (d+10) _ _ h _ h1 (hI<|BB f1<|CN 2<|ZZ) k!) k!) bB rfl
   · have dQ:=HK f1
     have Si:cc (some (.slice 39)) (some j.ao)=some (Zn j.ab.length):=bZ.1.len
     obtain ⟨z7,h9,PW,mf,fz8,amu⟩:=NZ (d:=d+4) j.ab (bZ.1.has bB) Ha Ha cP
     have pF:=mf.y
     have KQ:h1.nx≤h9.nx:=mf.n
     have my:Has h h9:=bB.trans mf.a
     have aiP:=fz8.small
     have xK:cc (some (.slice 3)) (some z7)=some (Zn ((eX j.ab).length)):=fz8.len
     have c11:AV.same 20 j.ao j.ao=true:=bZ.1.same 19
     have mH:=fun {al ps} (k:Pk al _ ps)=>(hI<|BC f1<|MM (aI 22 0 j.ao bk k!)<|CC<|MM (aI 22 0 j.ao bk k!)<|VV Si<|EE PW<|VV xK<|VV (bO 3 false false .i64 (((eX j.ab).length:Nat):Int) ((j.ab.length:Nat):Int))<|HH (aI 22 0 j.ao bk k!)<|HH c11<|HH (aI 22 0 j.ao bk k!)<|HH c11<|HH (aI 22 0 j.ao (mf.a _ _ bk) k!)<|HH c11<|k:Pk _ [] ps)
     rcases Bool.eq_false_or_eq_true (decide ((((eX j.ab).length:Nat):Int)<((j.ab.length:Nat):Int))) with f2 | f2
     · have jZ:=of_decide_eq_true f2
       have e:fD j=11:=by simp only[fD,f0,f1,f2,cond_true,cond_false]
       rw[e]
       exact aE rfl (aZ Tryz.func15 xu rfl (.inr rfl) (pk (d+10) _ _ h _ h9 (mH<|BC f2<|ZZ) k!) k!) my rfl
     · have jZ:=of_decide_eq_false f2
       have e:fD j=0:=by simp only[fD,f0,f1,f2,cond_true,cond_false]
       rw[e]
       exact aE rfl (aZ Tryz.func15 xu rfl (.inr rfl) (pk (d+10) _ _ h _ h9 (mH<|BC f2<|ZZ) k!) k!) my rfl
theorem Hc (x:Int):g9 x=dP x:=rfl
theorem Y6 {j:cG} {a:Nat}:∀k i,ir a j k i=bif anyI (fun n=>decide ((j.af.g n).name=(j.af.g a).name)) k i then some 6 else none
 | 0,i=>rfl
 | k+1,i=>by
   rw[ir,anyI,Y6 k (i+1)]
   cases decide ((j.af.g i).name=(j.af.g a).name)<;>rfl
theorem Y7 {j:cG} {a:Nat}:∀k i,iu a j k i=bif anyI (fun n=>decide ((j.ab.g n).name=(j.ab.g a).name)) k i then some 6 else none
 | 0,i=>rfl
 | k+1,i=>by
   rw[iu,anyI,Y7 k (i+1)]
   cases decide ((j.ab.g i).name=(j.ab.g a).name)<;>rfl
theorem S2 {x:Task} {a:Nat}:∀k i,eH a x k i=bif anyI (fun n=>decide (x.ax.g n=x.ax.g a)) k i then some 6 else none
 | 0,i=>rfl
 | k+1,i=>by
   rw[eH,anyI,S2 k (i+1)]
   cases decide (x.ax.g i=x.ax.g a)<;>rfl
theorem S3 {x:Task} {a:Nat}:∀k i,eI a x k i=bif anyI (fun n=>decide ((x.au.g n).ah=(x.au.g a).ah)) k i then some 6 else none
 | 0,i=>rfl
 | k+1,i=>by
   rw[eI,anyI,S3 k (i+1)]
   cases decide ((x.au.g i).ah=(x.au.g a).ah)<;>rfl
theorem Y8 {x:bI}:∀(k i:Nat),i+k=x.off.length→cy x k i=zJ (fun q=>cJ (x.off.take q) (x.off.g q)) k i
 | 0,i,h=>rfl
 | k+1,i,h=>by
   have hi:i<x.off.length:=by omega
   rw[cy,zJ,Y8 k (i+1) o!]
   have e:cJ (x.off.take i) (x.off.g i)=bif !(dP (x.off.g i).bl) then 1 else bif !(dP (x.off.g i).aN) then 1 else bif decide ((x.off.g i).aN<(x.off.g i).bl) then 1 else bif decide (0<((i:Nat):Int)) then (bif decide ((x.off.g i).bl≤(x.off.g (i - 1)).aN) then 1 else 0) else 0:=by
    rw[cJ,Hc,Hc,qt (Nat.le_of_lt hi)]
    by_cases z:0<i
    · rw[zn (show i - 1<i by omega)]
    · rw[decide_eq_false (show ¬0<((i:Nat):Int) by omega)];rfl
   rw[e]
   cases dP (x.off.g i).bl<;>cases dP (x.off.g i).aN<;>cases decide ((x.off.g i).aN<(x.off.g i).bl)<;>cases decide (0<((i:Nat):Int))<;>cases decide ((x.off.g i).bl≤(x.off.g (i - 1)).aN)<;>rfl
theorem af2 {j:cG} {i:Nat} (hi:i<j.af.length):bA (List.take i j.af) (List.g j.af i)=bif !(fG (j.af.g i).name) then 5 else bif anyI (fun n=>decide ((j.af.g n).name=(j.af.g i).name)) i 0 then 6 else bY (j.af.g i):=by
 rw[bA,S1,afh,SA,qt (Nat.le_of_lt hi)]
 rw[qq (Q:=fun n=>decide ((j.af.g n).name=(j.af.g i).name)) fun n _ hn=>by rw[zn o!];rfl]
 have e:(bif !(iY (j.af.g i).aB 1000) then 1 else L_ (j.af.g i).off.length 16 (fun jx=>cJ (List.take jx (j.af.g i).off) (List.g (j.af.g i).off jx)))=bY (j.af.g i):=by
  rw[bY,iY,L_,Y8 _ _ o!]
  by_cases a:0≤(j.af.g i).aB
  · rw[decide_eq_true a,decide_eq_false (show ¬(j.af.g i).aB<0 by omega)]
    by_cases b:(j.af.g i).aB≤1000
    · rw[decide_eq_true b,decide_eq_false (show ¬1000<(j.af.g i).aB by omega)];rfl
    · rw[decide_eq_false b,decide_eq_true (show 1000<(j.af.g i).aB by omega)];rfl
  · rw[decide_eq_false a,decide_eq_true (show (j.af.g i).aB<0 by omega)];rfl
 rw[←e]
theorem Y9 {j:cG}:∀(k i:Nat),i+k=j.af.length→gA j k i=zJ (fun q=>bA (List.take q j.af) (List.g j.af q)) k i
 | 0,i,h=>rfl
 | k+1,i,h=>by
   rw[gA,zJ,Y9 k (i+1) o!,Y6,af2 o!]
   cases fG (j.af.g i).name with
   | false=>rfl
   | true=>cases anyI (fun n=>decide ((j.af.g n).name=(j.af.g i).name)) i 0<;>rfl
theorem S4 (x:Int) (n:Nat):(!(iI x (n:Int)))=(bif decide (x<0) then true else decide ((n:Int)≤x)):=by
 rw[iI]
 by_cases a:0≤x
 · rw[decide_eq_true a,decide_eq_false (show ¬x<0 by omega),cond_true,cond_false]
   by_cases b:x<(n:Int)
   · rw[decide_eq_true b,decide_eq_false (show ¬(n:Int)≤x by omega)];rfl
   · rw[decide_eq_false b,decide_eq_true (show (n:Int)≤x by omega)];rfl
 · rw[decide_eq_false a,decide_eq_true (show x<0 by omega)];rfl
theorem S5 {j:cG} {t:Task}:∀(k i:Nat),i+k=t.ax.length→cY t j k i=zJ (fun q=>dj (List.take q t.ax) (List.g t.ax q) j) k i
 | 0,i,h=>rfl
 | k+1,i,h=>by
   have e:dj (List.take i t.ax) (List.g t.ax i) j=bif decide (t.ax.g i<0) then 7 else bif decide (((j.ab.length:Nat):Int)≤t.ax.g i) then 7 else bif anyI (fun n=>decide (t.ax.g n=t.ax.g i)) i 0 then 6 else 0:=by
    rw[dj,gM,S4,afi,qt (show i≤t.ax.length by omega)]
    rw[qq (Q:=fun n=>decide (t.ax.g n=t.ax.g i)) fun n _ hn=>by rw[zn o!];exact decide_eq_decide.2 eq_comm]
    cases decide (t.ax.g i<0)<;>cases decide (((j.ab.length:Nat):Int)≤t.ax.g i)<;>rfl
   rw[cY,zJ,S5 k (i+1) o!,S2,e]
   cases decide (t.ax.g i<0)<;>cases decide (((j.ab.length:Nat):Int)≤t.ax.g i)<;>cases anyI (fun n=>decide (t.ax.g n=t.ax.g i)) i 0<;>rfl
theorem Y_ {j:cG} {t:Task}:∀(k i:Nat),i+k=t.au.length→cD t j k i=zJ (fun q=>gG (List.take q t.au) (List.g t.au q) j) k i
 | 0,i,h=>rfl
 | k+1,i,h=>by
   have e:gG (List.take i t.au) (List.g t.au i) j=bif decide ((t.au.g i).ah<0) then 7 else bif decide (((j.af.length:Nat):Int)≤(t.au.g i).ah) then 7 else bif anyI (fun n=>decide ((t.au.g n).ah=(t.au.g i).ah)) i 0 then 6 else bif decide ((t.au.g i).aB<1) then 1 else bif decide (1000<(t.au.g i).aB) then 1 else bif decide ((j.af.g (Int.toNat (t.au.g i).ah)).aB<(t.au.g i).aB) then 9 else 0:=by
    rw[gG,dI,S4,Yf,qt (show i≤t.au.length by omega)]
    rw[qq (Q:=fun n=>decide ((t.au.g n).ah=(t.au.g i).ah)) fun n _ hn=>by rw[zn o!];rfl]
    cases decide ((t.au.g i).ah<0)<;>cases decide (((j.af.length:Nat):Int)≤(t.au.g i).ah)<;>rfl
   rw[cD,zJ,Y_ k (i+1) o!,S3,e]
   cases decide ((t.au.g i).ah<0)<;>cases decide (((j.af.length:Nat):Int)≤(t.au.g i).ah)<;>cases anyI (fun n=>decide ((t.au.g n).ah=(t.au.g i).ah)) i 0<;>cases decide ((t.au.g i).aB<1)<;>cases decide (1000<(t.au.g i).aB)<;>cases decide ((j.af.g (Int.toNat (t.au.g i).ah)).aB<(t.au.g i).aB)<;>rfl
theorem acz {j:cG} {i:Nat} (hi:i<j.ab.length):fS (List.take i j.ab) (List.g j.ab i) j=bif !(fG (j.ab.g i).name) then 5 else bif anyI (fun n=>decide ((j.ab.g n).name=(j.ab.g i).name)) i 0 then 6 else cR j (j.ab.g i):=by
 rw[fS,dh,S1,abU,qt (Nat.le_of_lt hi),Hc]
 rw[qq (Q:=fun n=>decide ((j.ab.g n).name=(j.ab.g i).name)) fun n _ hn=>by rw[zn o!];rfl]
 rw[cR,S5 _ _ o!,Y_ _ _ o!,Ya,Yb,L_,L_]
 rw[decide_eq_false (show ¬(((j.ab.g i).ax.length:Nat):Int)<(((j.ab.g i).ax.length:Nat):Int) by omega),decide_eq_false (show ¬(((j.ab.g i).au.length:Nat):Int)<(((j.ab.g i).au.length:Nat):Int) by omega),cond_false,cond_false]
 have e1:List.g j.ab i=j.ab.g i:=rfl
 cases fG (j.ab.g i).name with
 | false=>rfl
 | true=>
 cases anyI (fun n=>decide ((j.ab.g n).name=(j.ab.g i).name)) i 0 with
 | true=>rfl
 | false=>
 cases dP (j.ab.g i).takes with
 | false=>rfl
 | true=>
 cases h:zJ (fun q=>dj (List.take q (j.ab.g i).ax) (List.g (j.ab.g i).ax q) j) (j.ab.g i).ax.length 0 with
 | none=>rfl
 | some r=>
   have:=wc h
   show (bif !decide (r=0) then r else _)=r
   rw[decide_eq_false this];rfl
theorem Y' {j:cG}:∀(k i:Nat),i+k=j.ab.length→fu j k i=zJ (fun q=>fS (List.take q j.ab) (List.g j.ab q) j) k i
 | 0,i,h=>rfl
 | k+1,i,h=>by
   rw[fu,zJ,Y' k (i+1) o!,Y7,acz o!]
   cases fG (j.ab.g i).name with
   | false=>rfl
   | true=>cases anyI (fun n=>decide ((j.ab.g n).name=(j.ab.g i).name)) i 0<;>rfl
theorem Za (j:cG) (h:(∀i,i<j.ab.length→∀q,q<(j.ab.g i).ax.length→0≤(j.ab.g i).ax.g q∧(j.ab.g i).ax.g q<(j.ab.length:Int))→j.ab.length≤64→(eX j.ab).length=(gr j).length∧(gr j).length≤j.ab.length):fD j=ek j:=by
 have nbf:bX j.ab 64 (fun jx=>fS (List.take jx j.ab) (List.g j.ab jx) j)=0→(eX j.ab).length=(gr j).length∧(gr j).length≤j.ab.length:=fun e=>h (zl e) (by rw[A0] at e;have:=(oR e).1;omega)
 rw[fD,ek,Y9 _ _ o!,Y' _ _ o!,Yc]
 rw[A0] at nbf ⊢
 rw[L_]
 rw[L_] at nbf ⊢
 generalize hA:zJ (fun q=>bA (List.take q j.af) (List.g j.af q)) j.af.length 0=A
 generalize hB:zJ (fun q=>fS (List.take q j.ab) (List.g j.ab q) j) j.ab.length 0=B at nbf ⊢
 cases decide (16<((j.af.length:Nat):Int)) with
 | true=>rfl
 | false=>
 rw[cond_false,cond_false]
 cases A with
 | some r=>
   have:=wc hA
   show (bif !decide (r=0) then r else _)=r
   rw[decide_eq_false this];rfl
 | none=>
 show (bif !decide ((0:Int)=0) then 0 else _)=_
 rw[decide_eq_true (show (0:Int)=0 from rfl),Bool.not_true,cond_false]
 cases hc:decide (64<((j.ab.length:Nat):Int)) with
 | true=>rfl
 | false=>
 rw[hc,cond_false] at nbf
 rw[cond_false,cond_false]
 cases B with
 | some r=>
   have:=wc hB
   show (bif !decide (r=0) then r else _)=r
   rw[decide_eq_false this];rfl
 | none=>
 obtain ⟨e1,e2⟩:=nbf rfl
 show (bif !decide ((0:Int)=0) then 0 else _)=_
 rw[decide_eq_true (show (0:Int)=0 from rfl),Bool.not_true,cond_false]
 by_cases z:(gr j).length=j.ab.length
 · rw[decide_eq_false (by omega:¬((((eX j.ab).length:Nat):Int)<((j.ab.length:Nat):Int))),decide_eq_true (by omega:(((gr j).length:Nat):Int)=((j.ab.length:Nat):Int))];rfl
 · rw[decide_eq_true (by omega:((((eX j.ab).length:Nat):Int)<((j.ab.length:Nat):Int))),decide_eq_false (by omega:¬(((gr j).length:Nat):Int)=((j.ab.length:Nat):Int))];rfl
end Go.Proofs.aJ
