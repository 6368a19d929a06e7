import Derived.Test.YthapgpflpcffnaaGreatDoorW0
import Derived.Test.YthapgpflpcffnaaGreatDoorW3
import Derived.Test.YthapgpflpcffnaaGreatDoorW4
namespace Go.Proofs.aP
open Go.Proofs Ab
noncomputable section
set_option maxRecDepth 100000
set_option maxHeartbeats 4000000
set_option linter.unusedVariables false
set_option linter.unusedSimpArgs false
def px:Code:=(Tryz.f8.body).getD .skip
theorem qx:Tryz.f8.body=some px:=by kernel_rfl
def A6:Code:=(dj px).getD 0 .skip
def eK (a:List Int) (b:List Int):Nat→Nat→Option (Bool)
 | 0,_=>none
 | tF+1,i0=>(bif (!decide ((a.g i0)=(b.g i0))) then some false else eK a b tF (i0+1))
theorem py {d:Nat} {h:ah} (aV:AV) (bV:AV) (a:List Int) (b:List Int) (c8:ek h .u64 54 aV a) (qw:ek h .u64 54 bV b) (CJ:a.length=b.length):∀(k_ i_:Nat) (_:i_+k_=a.length) (x:Nat→AV) (hh:ah) (c_:Tidy hh) (b7:Has h hh),bu (dJ (d)) A6 ⟨(aV::bV::rx x 2 3 ((Zn i_)::rx x 6 20 [])),hh,[],.no⟩ (.exit 0) hh (fun y=>(aV::bV::rx y 2 24 [])) (fun r y=>(aV::bV::(y 2)::(y 3)::(AV.bool r)::rx y 5 21 [])) (eK a b k_ i_)
 | 0,i0,E2,x,hh,c_,b7=>by
   have kO:=c8.small
   have CK:=qw.small
   have E4:dS (some (.slice 54)) (some aV)=some (Zn a.length):=(c8.has b7).len
   have q2:(decide (((i0:Nat):Int)<((a.length:Nat):Int)))=false:=d!
   exact bu.out rfl (pk (d) _ _ hh _ hh (CN 2<|VV E4<|VV (jt 3 false false .i64 ((i0:Nat):Int) ((a.length:Nat):Int))<|BB q2<|ZZ) k!) (dB.refl c_) k!
 | tF+1,i0,E2,x,hh,c_,b7=>by
   have kO:=c8.small
   have CK:=qw.small
   have E4:dS (some (.slice 54)) (some aV)=some (Zn a.length):=(c8.has b7).len
   have q2:(decide (((i0:Nat):Int)<((a.length:Nat):Int)))=true:=d!
   obtain ⟨p4,q5,Jn,_⟩:=(c8.has b7).elem (i:=i0) o!
   have On:bD env (some (.slice 54)) (some aV) (some (Zn i0))=some (AV.ptr p4 q5):=Jn
   have R9:aM env hh 54 (AV.ptr p4 q5)=some (AV.int .u64 (a.g i0)):=(c8.has b7).load o! Jn
   obtain ⟨p8,q9,R_,_⟩:=(qw.has b7).elem (i:=i0) o!
   have Q7:bD env (some (.slice 54)) (some bV) (some (Zn i0))=some (AV.ptr p8 q9):=R_
   have R':aM env hh 54 (AV.ptr p8 q9)=some (AV.int .u64 (b.g i0)):=(qw.has b7).load o! R_
   have tG:=fun {al ps} (k:Pk al _ ps)=>(CN 2<|VV E4<|VV (jt 3 false false .i64 ((i0:Nat):Int) ((a.length:Nat):Int))<|BB q2<|CN 2<|VV On<|MM R9<|CN 2<|VV Q7<|MM R'<|VV (bI 54 false false .u64 (a.g i0) (b.g i0))<|HH R9<|HH (show AV.same 20 (AV.int .u64 (a.g i0)) (AV.int .u64 (a.g i0))=true from dA 19 _ _)<|HH R'<|HH (show AV.same 20 (AV.int .u64 (b.g i0)) (AV.int .u64 (b.g i0))=true from dA 19 _ _)<|k:Pk _ [] ps)
   rcases Bool.eq_false_or_eq_true (!decide ((a.g i0)=(b.g i0))) with f1 | f1
   · have mn:=DT f1
     exact bu.ret false (by simp only[eK,f1,ar,ao]) (pk (d) _ _ hh _ hh (tG<|BC f1<|ZZ) k!) (dB.refl c_) k!
   · have mn:=DU f1
     have UQ:=Ch 3 false true i0 1 o!
     exact bu.round (by simp only[eK,f1,ar,ao]) (pk (d) _ _ hh _ hh (tG<|BC f1<|VV UQ<|CC<|ZZ) k!) (dB.refl c_) _ k! (fun x=>py aV bV a b c8 qw CJ tF (i0+1) o! x hh c_ b7)
def cd (a:List Int) (b:List Int):Bool:=(bif (!decide (((a.length:Nat):Int)=((b.length:Nat):Int))) then false else (match (eK a b a.length 0) with | none=>true | some H8=>H8))
theorem E' {d:Nat} {h:ah} {aV bV:AV} (a:List Int) (b:List Int) (VW:ek h .u64 54 aV a) (VX:ek h .u64 54 bV b) (dL:Tidy h):dJ (d+1) (.fn 8) [aV,bV] h= .ret (AV.bool (cd a b)) h:=by
 have Xm:=VW.small
 have Xn:=VX.small
 have E4:dS (some (.slice 54)) (some aV)=some (Zn a.length):=VW.len
 have ZN:dS (some (.slice 54)) (some bV)=some (Zn b.length):=VX.len
 have yw:=fun {al ps} (k:Pk al _ ps)=>(CN 2<|VV E4<|CC<|VV ZN<|VV (bI 3 false false .i64 ((a.length:Nat):Int) ((b.length:Nat):Int))<|k:Pk _ [] ps)
 rcases Bool.eq_false_or_eq_true (!decide (((a.length:Nat):Int)=((b.length:Nat):Int))) with f0 | f0
 · have kK:=DT f0
   have e:cd a b=false:=by simp only[cd,f0,ar,ao]
   rw[e]
   exact aA rfl (aX Tryz.func8 qx rfl (.inr rfl) (pk (d) _ _ h _ h (yw<|BC f0<|ZZ) k!) k!) (Has.refl _) rfl
 · have kK:=DU f0
   have Rb:=py (d:=d) (h:=h) aV bV a b VW VX o! a.length 0 o! (fun k_=>((aV::bV::AV.undef::AV.undef::(AV.bool false)::(Zi 0)::aV::(Zn a.length)::bV::(Zn b.length)::(AV.bool (!decide (((a.length:Nat):Int)=((b.length:Nat):Int))))::dE 15):List AV).getD k_ AV.undef) h dL (Has.refl _)
   cases fY:eK a b a.length 0 with
   | none=>
     obtain ⟨PE,h5,gI,gJ⟩:=bu.n fY Rb
     have Cl:=gJ.y
     have E3:h.nx≤h5.nx:=gJ.n
     have qo:Has h h5:=gJ.a
     have e:cd a b=true:=by simp only[cd,f0,fY,ar,ao]
     rw[e]
     exact aA rfl (aX Tryz.func8 qx rfl (.inr rfl) (pk (d) _ _ h _ h5 (yw<|BC f0<|LL gI<|CC<|ZZ) k!) k!) qo rfl
   | some H8=>
     obtain ⟨PE,h5,gI,gJ⟩:=bu.r fY Rb
     have Cl:=gJ.y
     have E3:h.nx≤h5.nx:=gJ.n
     have qo:Has h h5:=gJ.a
     have e:cd a b=H8:=by simp only[cd,f0,fY,ar,ao]
     rw[e]
     exact aA rfl (aX Tryz.func8 qx rfl (.inr rfl) (pk (d) _ _ h _ h5 (yw<|BC f0<|LL gI<|ZZ) k!) k!) qo rfl
def rn:Code:=(Tryz.f4.body).getD .skip
theorem mF:Tryz.f4.body=some rn:=by kernel_rfl
def CL:Code:=(dj rn).getD 0 .skip
def eS (l_:List Fact):Nat→Nat→Int→Int
 | 0,_,vA=>vA
 | tF+1,i0,vA=>eS l_ tF (i0+1) (IntKind.i64.wrap ((IntKind.i64.wrap ((IntKind.i64.wrap (vA+((List.length ((l_.g i0).kind):Nat):Int)))+((List.length ((l_.g i0).item):Nat):Int)))+((List.length ((l_.g i0).ag):Nat):Int)))
theorem mG {d:Nat} {h:ah} (cS:AV) (l_:List Fact) (c8:bh h cS l_):∀(k_ i_:Nat) (vA:Int) (_:i_+k_=l_.length) (x:Nat→AV) (hh:ah) (c_:Tidy hh) (b7:Has h hh),fX (dJ (d)) CL ⟨(cS::(x 1)::(x 2)::(Zi vA)::(Zn i_)::rx x 5 43 []),hh,[],.no⟩ (.exit 0) hh (fun r y=>(cS::(y 1)::(y 2)::(Zi r)::rx y 4 44 [])) (fun r=>True) (eS l_ k_ i_ vA)
 | 0,i0,vA,E2,x,hh,c_,b7=>by
   have kO:=c8.small
   have E4:dS (some (.slice 33)) (some cS)=some (Zn l_.length):=(c8.has b7).len
   have q2:(decide (((i0:Nat):Int)<((l_.length:Nat):Int)))=false:=d!
   exact fX.out vA rfl (pk (d) _ _ hh _ hh (CN 2<|VV E4<|VV (jt 3 false false .i64 ((i0:Nat):Int) ((l_.length:Nat):Int))<|BB q2<|ZZ) k!) (dB.refl c_) trivial k!
 | tF+1,i0,vA,E2,x,hh,c_,b7=>by
   have kO:=c8.small
   have E4:dS (some (.slice 33)) (some cS)=some (Zn l_.length):=(c8.has b7).len
   have q2:(decide (((i0:Nat):Int)<((l_.length:Nat):Int)))=true:=d!
   obtain ⟨p4,q5,Jn⟩:=(c8.has b7).elem (i:=i0) o!
   have On:bD env (some (.slice 33)) (some cS) (some (Zn i0))=some (AV.ptr p4 q5):=Jn
   have R9:aM env hh 9 (AV.ptr p4 (q5+1))=some (AV.str (l_.g i0).kind):=(c8.has b7).part (t:=9) (j:=1) o! Jn k! rfl
   have sn7:((l_.g i0).kind).length<2^60:=((c8.has b7).ok (i:=i0) o!).1
   obtain ⟨p9,R7,Jl⟩:=(c8.has b7).elem (i:=i0) o!
   have VS:bD env (some (.slice 33)) (some cS) (some (Zn i0))=some (AV.ptr p9 R7):=Jl
   have E_:aM env hh 9 (AV.ptr p9 (R7+2))=some (AV.str (l_.g i0).item):=(c8.has b7).part (t:=9) (j:=2) o! Jl k! rfl
   have ZO:((l_.g i0).item).length<2^60:=((c8.has b7).ok (i:=i0) o!).2.1
   obtain ⟨Xo,Xp,Ng⟩:=(c8.has b7).elem (i:=i0) o!
   have yF:bD env (some (.slice 33)) (some cS) (some (Zn i0))=some (AV.ptr Xo Xp):=Ng
   have Sa:aM env hh 9 (AV.ptr Xo (Xp+3))=some (AV.str (l_.g i0).ag):=(c8.has b7).part (t:=9) (j:=3) o! Ng k! rfl
   have ZP:((l_.g i0).ag).length<2^60:=((c8.has b7).ok (i:=i0) o!).2.2
   have Vd:=Ch 3 false true i0 1 o!
   exact fX.round (by simp only[eS,ar,ao]) (pk (d) _ _ hh _ hh (CN 2<|VV E4<|VV (jt 3 false false .i64 ((i0:Nat):Int) ((l_.length:Nat):Int))<|BB q2<|CN 3<|VV On<|CC<|MM R9<|CN 4<|VV VS<|CC<|MM E_<|CN 4<|VV yF<|CC<|MM Sa<|CN 3<|HH R9<|HH (show AV.same 20 (AV.str (l_.g i0).kind) (AV.str (l_.g i0).kind)=true from az 19 _)<|HH E_<|HH (show AV.same 20 (AV.str (l_.g i0).item) (AV.str (l_.g i0).item)=true from az 19 _)<|HH Sa<|HH (show AV.same 20 (AV.str (l_.g i0).ag) (AV.str (l_.g i0).ag)=true from az 19 _)<|CC<|VV Vd<|CC<|ZZ) k!) (dB.refl c_) _ k! (fun x=>mG cS l_ c8 tF (i0+1) (IntKind.i64.wrap ((IntKind.i64.wrap ((IntKind.i64.wrap (vA+((List.length ((l_.g i0).kind):Nat):Int)))+((List.length ((l_.g i0).item):Nat):Int)))+((List.length ((l_.g i0).ag):Nat):Int))) o! x hh c_ b7)
def fF (l_:List Fact):Bool:=(bif (decide (30<((l_.length:Nat):Int))) then (bif (decide (((l_.length:Nat):Int)≤512)) then true else (bif (decide (600<((l_.length:Nat):Int))) then true else (decide (3000<(eS l_ l_.length 0 0))))) else (bif (decide (600<((l_.length:Nat):Int))) then true else (decide (3000<(eS l_ l_.length 0 0)))))
theorem Jo {d:Nat} {h:ah} {cS:AV} (l_:List Fact) (dC:bh h cS l_) (dL:Tidy h):dJ (d+1) (.fn 4) [cS] h= .ret (AV.bool (fF l_)) h:=by
 have yB:=dC.small
 have E4:dS (some (.slice 33)) (some cS)=some (Zn l_.length):=dC.len
 have tG:=fun {al ps} (k:Pk al _ ps)=>(CN 2<|VV E4<|VV (fK 3 false true .i64 ((l_.length:Nat):Int) 30)<|CC<|k:Pk _ [] ps)
 rcases Bool.eq_false_or_eq_true (decide (30<((l_.length:Nat):Int))) with f0 | f0
 · have kK:=of_decide_eq_true f0
   have r_:dS (some (.slice 33)) (some cS)=some (Zn l_.length):=dC.len
   have yw:=fun {al ps} (k:Pk al _ ps)=>(tG<|BC f0<|BV f0 r_<|BV f0 (yq 3 false true .i64 ((l_.length:Nat):Int) 512)<|VV (Bu (decide (((l_.length:Nat):Int)≤512)) false f0)<|CC<|k:Pk _ [] ps)
   rcases Bool.eq_false_or_eq_true (decide (((l_.length:Nat):Int)≤512)) with f1 | f1
   · have mn:=of_decide_eq_true f1
     have e:fF l_=true:=by simp only[fF,f0,f1,ar,ao]
     rw[e]
     exact aA rfl (aX Tryz.func4 mF rfl (.inr rfl) (pk (d) _ _ h _ h (yw<|BB f1<|BB f1<|BV f1 (LC true f1)<|TT<|CC<|ZZ) k!) k!) (Has.refl _) rfl
   · have mn:=of_decide_eq_false f1
     have CM:dS (some (.slice 33)) (some cS)=some (Zn l_.length):=dC.len
     have FV:=fun {al ps} (k:Pk al _ ps)=>(yw<|BC f1<|BV f1 CM<|BV f1 (fK 3 false true .i64 ((l_.length:Nat):Int) 600)<|VV (aW (a:=some (AV.bool true)) (b:=some (AV.bool (decide (600<((l_.length:Nat):Int))))) f1)<|k:Pk _ [] ps)
     rcases Bool.eq_false_or_eq_true (decide (600<((l_.length:Nat):Int))) with f2 | f2
     · have O0:=of_decide_eq_true f2
       have e:fF l_=true:=by simp only[fF,f0,f1,f2,ar,ao]
       rw[e]
       exact aA rfl (aX Tryz.func4 mF rfl (.inr rfl) (pk (d) _ _ h _ h (FV<|BC f2<|ZZ) k!) k!) (Has.refl _) rfl
     · have O0:=of_decide_eq_false f2
       obtain ⟨Xl,h8,uH,uI,Td⟩:=mG (d:=d) (h:=h) cS l_ dC l_.length 0 0 o! (fun k_=>((cS::AV.undef::(AV.bool false)::(Zi 0)::(Zi 0)::cS::(Zn l_.length)::(AV.bool (decide (30<((l_.length:Nat):Int))))::(AV.bool (decide (30<((l_.length:Nat):Int))))::cS::(Zn l_.length)::(AV.bool (decide (((l_.length:Nat):Int)≤512)))::(AV.bool (decide (((l_.length:Nat):Int)≤512)))::(AV.bool (decide (((l_.length:Nat):Int)≤512)))::cS::(Zn l_.length)::(AV.bool (decide (600<((l_.length:Nat):Int))))::(AV.bool (decide (600<((l_.length:Nat):Int))))::dE 30):List AV).getD k_ AV.undef) h dL (Has.refl _)
       have OQ:=uI.y
       have R8:h.nx≤h8.nx:=uI.n
       have Cx:Has h h8:=uI.a
       have e:fF l_=(decide (3000<(eS l_ l_.length 0 0))):=by simp only[fF,f0,f1,f2,ar,ao]
       rw[e]
       exact aA rfl (aX Tryz.func4 mF rfl (.inr rfl) (pk (d) _ _ h _ h8 (FV<|BB f2<|CN 2<|LL uH<|CC<|VV (fK 3 false true .i64 (eS l_ l_.length 0 0) 3000)<|CC<|ZZ) k!) k!) Cx rfl
 · have kK:=of_decide_eq_false f0
   have r_:dS (some (.slice 33)) (some cS)=some (Zn l_.length):=dC.len
   have MY:=fun {al ps} (k:Pk al _ ps)=>(tG<|BB f0<|BB f0<|BV f0 (FT false f0)<|CC<|FF<|CC<|FF<|VV r_<|FF<|VV (fK 3 false true .i64 ((l_.length:Nat):Int) 600)<|CC<|k:Pk _ [] ps)
   rcases Bool.eq_false_or_eq_true (decide (600<((l_.length:Nat):Int))) with f1 | f1
   · have mn:=of_decide_eq_true f1
     have e:fF l_=true:=by simp only[fF,f0,f1,ar,ao]
     rw[e]
     exact aA rfl (aX Tryz.func4 mF rfl (.inr rfl) (pk (d) _ _ h _ h (MY<|BC f1<|ZZ) k!) k!) (Has.refl _) rfl
   · have mn:=of_decide_eq_false f1
     obtain ⟨yl5,h6,O1,O2,Te⟩:=mG (d:=d) (h:=h) cS l_ dC l_.length 0 0 o! (fun k_=>((cS::AV.undef::(AV.bool false)::(Zi 0)::(Zi 0)::cS::(Zn l_.length)::(AV.bool (decide (30<((l_.length:Nat):Int))))::(AV.bool (decide (30<((l_.length:Nat):Int))))::AV.undef::AV.undef::AV.undef::(AV.bool false)::(AV.bool false)::cS::(Zn l_.length)::(AV.bool (decide (600<((l_.length:Nat):Int))))::(AV.bool (decide (600<((l_.length:Nat):Int))))::dE 30):List AV).getD k_ AV.undef) h dL (Has.refl _)
     have vu:=O2.y
     have ZQ:h.nx≤h6.nx:=O2.n
     have tJ:Has h h6:=O2.a
     have e:fF l_=(decide (3000<(eS l_ l_.length 0 0))):=by simp only[fF,f0,f1,ar,ao]
     rw[e]
     exact aA rfl (aX Tryz.func4 mF rfl (.inr rfl) (pk (d) _ _ h _ h6 (MY<|BB f1<|CN 2<|LL O1<|CC<|VV (fK 3 false true .i64 (eS l_ l_.length 0 0) 3000)<|CC<|ZZ) k!) k!) tJ rfl
section
variable {α:Type} [aw α]
theorem cQ.ix {h0 h:ah} {z:AV} {l:List α} (y:Tidy h) (o:cQ h0 h z l) {i:Nat} (hi:i<l.length):
 ∃p,bD env (some (.slice (aw.e α))) (some z) (some (.int .i64 ((i:Nat):Int)))=some (.ptr p (i*aw.n α))∧p<h.nx∧h0.nx≤p:=by
 rcases o with ⟨_,rfl⟩ | ⟨hn,p,op,rfl,hp,hg⟩
 · simp at hi
 · have ix:=eE (E:=env) (i:=p) (o:=0) (c:=l.length) (b:=op) (aw.size (α:=α)) hi
   rw[Nat.zero_add] at ix
   exact ⟨p,ix,y _ _ hg,hp⟩
theorem A7 {L:List AV} {o:Nat} (ho:o<L.length) (v:AV):setFrom L o [v]=L.set o v:=by
 apply List.ext_getElem?
 intro k
 rw[b4,List.getElem?_set]
 by_cases e:o=k
 · subst e;rw[if_pos ⟨by omega,by simp,by omega⟩,if_pos rfl,if_pos ho];simp
 · rw[if_neg (by simp only[List.length_cons,List.length_nil];omega),if_neg e]
theorem Ff {l:List α} {i j:Nat} (h:i<l.length) {x:α} {v:AV} (hj:j<aw.n α) (hc:aw.c x=(aw.c (l.g i)).set j v):(l.flatMap aw.c).set (i*aw.n α+j) v=(l.set i x).flatMap aw.c:=by
 rw[←pa h x,hc]
 have hl:=bH aw.len l
 have hb:i*aw.n α+aw.n α≤l.length*aw.n α:=by rw[←Nat.succ_mul];exact Nat.mul_le_mul_right _ h
 apply List.ext_getElem?
 intro k
 rw[b4,List.length_set,aw.len,hl,List.getElem?_set,hl]
 have gi:∀r,r<aw.n α→(l.flatMap aw.c)[i*aw.n α+r]? =(aw.c (l.g i))[r]? :=fun r hr=>fI aw.len l i r h hr
 by_cases e:i*aw.n α+j=k
 · subst e
   rw[if_pos rfl,if_pos o!,if_pos ⟨by omega,by omega,by omega⟩,Nat.add_sub_cancel_left,List.getElem?_set,if_pos rfl,if_pos (by rw[aw.len];exact hj)]
 · rw[if_neg e]
   by_cases q:i*aw.n α≤k∧k<i*aw.n α+aw.n α∧k<l.length*aw.n α
   · obtain ⟨r,rfl⟩:∃r,k=i*aw.n α+r:=⟨k - i*aw.n α,by omega⟩
     rw[if_pos q,Nat.add_sub_cancel_left,List.getElem?_set,if_neg o!,gi r o!]
   · rw[if_neg o!]
theorem cQ.Fl {h0 h:ah} {z:AV} {l:List α} (y:Tidy h) (y0:Tidy h0) (a:Has h0 h) (o:cQ h0 h z l) {i:Nat} (hi:i<l.length) {p q:Nat}
 (ZR:bD env (some (.slice (aw.e α))) (some z) (some (.int .i64 ((i:Nat):Int)))=some (.ptr p q)) {t:TypeId} {j:Nat} {x:α} {v:AV} (ht:bb env t=some 1) (hv:v.cells=[v]) (hs:v.scalar=true) (hj:j<aw.n α) (hc:aw.c x=(aw.c (l.g i)).set j v):
 ∃h',aQ env h t (.ptr p (q+j)) v=some h'∧Tidy h'∧h'.nx=h.nx∧cQ h0 h' z (l.set i x)∧Has h0 h'∧∀b w,b≠p→h.get b=some w→h'.get b=some w:=by
 rcases o with ⟨_,rfl⟩ | ⟨hn,p',op,rfl,hp,hg⟩
 · simp at hi
 · have ix:=eE (E:=env) (i:=p') (o:=0) (c:=l.length) (b:=op) (aw.size (α:=α)) hi
   rw[Nat.zero_add,ZR] at ix
   simp only[Option.some.injEq,AV.ptr.injEq] at ix
   obtain ⟨rfl,rfl⟩:=ix
   have hl:=bH aw.len l
   have hb:i*aw.n α+aw.n α≤l.length*aw.n α:=by rw[←Nat.succ_mul];exact Nat.mul_le_mul_right _ hi
   obtain ⟨h',s⟩:=o6 (E:=env) (t:=t) (o:=i*aw.n α+j) (n:=1) (v:=v) hg ht (by rw[hv];rfl) o! (by rw[hv];simp [hs])
   have g':=qm y s hg
   refine ⟨h',s,nW y s hg,o7 s hg,.inr ⟨by intro e;rw[←List.length_eq_zero_iff,List.length_set] at e;omega,p,op,by rw[List.length_set],hp,?_⟩,fun j w gw=>?_,fun b w hb gw=>kJ y s hg hb gw⟩
   · rw[g',hv,A7 o!,Ff hi hj hc]
   · have:=y0 _ _ gw
     exact kJ y s hg o! (a _ _ gw)
end
def FW (l:List (List UInt8)):List AV:=l.map AV.str
section
variable {h:ah} {t e:TypeId} {p i n:Nat}
theorem bE {l:List (List UInt8)} {ro:Bool} (ht:cm env t=some false) (hg:h.get p=some (.cells (FW l) e ro)) (hi:i<l.length):aM env h t (.ptr p i)=some (.str (l.g i)):=by
 simp only[aM,hg,dG,ht]
 rw[FW,List.getElem?_map,List.getElem?_eq_getElem hi,List.g,List.getD_eq_getElem?_getD,List.getElem?_eq_getElem hi];rfl
theorem A8 {l:List (List UInt8)} {v:List UInt8} (hs:bb env t=some 1) (hg:h.get p=some (.cells (FW l) e false)) (hi:i<l.length):aQ env h t (.ptr p i) (.str v)=some (h.put p (some (.cells (FW (l.set i v)) e false))):=by
 rw[wm hs hg (by rw[FW,List.length_map];exact hi) rfl rfl,FW,FW,List.map_set]
end
theorem L6 {a b c:List UInt8} {i:Nat} (h:(1≤List.length a∧List.length a≤16)∧(1≤List.length b∧List.length b≤16)∧(1≤List.length c∧List.length c≤16)) (hi:i<3):1≤List.length (([a,b,c]:List (List UInt8)).g i)∧List.length (([a,b,c]:List (List UInt8)).g i)≤16:=by
 match i,hi with
 | 0,_=>exact h.1
 | 1,_=>exact h.2.1
 | 2,_=>exact h.2.2
theorem j6 {a b c s:List UInt8} {i j:Nat} (h:(1≤List.length a∧List.length a≤16)∧(1≤List.length b∧List.length b≤16)∧(1≤List.length c∧List.length c≤16)) (hs:List.length s≤16):List.length ((([a,b,c]:List (List UInt8)).set i s).g j)≤16:=by
 rw[List.g,List.getD_eq_getElem?_getD,List.getElem?_set]
 split
 · split
   · exact hs
   · exact Nat.zero_le _
 · match j with
   | 0=>exact h.1.2
   | 1=>exact h.2.1.2
   | 2=>exact h.2.2.2
   | j+3=>exact Nat.zero_le _
def ay (l:List Int):List UInt8:=l.map fun n=>UInt8.ofNat n.toNat
theorem D6 (l:List Int):(ay l).length=l.length:=List.length_map ..
theorem D8 {h:ah} {p n:Nat} {L:List Int} {f:TypeId} {ro:Bool} (hg:h.get p=some (.cells (zs .u8 L) f ro)) (hn:n=L.length):vw h p 0 n=some (.str (ay L)):=by
 subst hn
 have key:∀(f:AV→Option UInt8),(∀b,f (.int .u8 b)=some (UInt8.ofNat b.toNat))→∀L:List Int,bO f (zs .u8 L)=some (ay L):=by
  intro f hf L
  induction L with
  | nil=>rfl
  | cons a L ih=>
    rw[zs] at ih ⊢
    rw[List.map_cons,bO,hf,ih];rfl
 have hl:(zs .u8 L).length=L.length:=gG _ _
 simp only[vw,mM,hg]
 rw[if_pos o!,List.drop_zero,List.take_of_length_le o!,key _ fun b=>rfl]
def dm (a b:Int):Int:=Int.tmod (IntKind.i64.wrap ((Int.tmod a b)+b)) b
theorem modn {a b:Int} (hb:0<b) (hs:b<2^62):0≤Int.tmod (IntKind.i64.wrap (Int.tmod a b+b)) b∧Int.tmod (IntKind.i64.wrap (Int.tmod a b+b)) b<b:=by
 have h1:=Int.tmod_lt_of_pos a hb
 have h2: -b<Int.tmod a b:=by
  rcases Int.le_total 0 a with h | h
  · have:=Int.tmod_nonneg b h;omega
  · have:=Int.tmod_lt_of_pos (-a) hb
    rw[Int.neg_tmod] at this;omega
 rw[wrap_i64 o! o!]
 exact ⟨Int.tmod_nonneg b o!,Int.tmod_lt_of_pos _ hb⟩
theorem ek.pre {k:IntKind} {h:ah} {e:TypeId} {v:AV} {l:List Int} (x:ek h k e v l) {t:TypeId} (ht:env.P.underlying t=some (.slice e)) {i:Nat} (hi:i<l.length):∃r,bP env t v none (some (.int .i64 ((i:Nat):Int))) none=some r∧ek h k e r (l.take i):=by
 rcases x.at_.block with h0 | ⟨p,o,m,c,b,C,f,ro,h1,hc,h2,h3⟩
 · omega
 · subst h1
   have hm:m=l.length:=by
    have:=x.at_.lens
    rw[dr] at this
    simp only[Option.some.injEq,AV.int.injEq,true_and] at this
    omega
   subst hm
   refine ⟨.slice p o i c b,?_,⟨⟨x.at_.size,by rw[gG,Nat.mul_one],by have:=x.small;simp;omega,?_,.inr ⟨p,o,i,c,b,C,f,ro,rfl,by omega,h2,fun j hj=>?_⟩⟩,x.agg,.inr (.inr ⟨_,_,_,_,_,rfl⟩)⟩⟩
   · simp only[bP,ht,x.at_.size,hc,if_true,gE (len:=l.length) (cap:=c) none (some (.int .i64 ((i:Nat):Int))) (.inr ⟨rfl,rfl⟩) (.inl rfl) (Nat.zero_le i) o!]
     rw[if_neg o!]
     simp
   · rw[dr,List.length_take,Nat.min_eq_left (Nat.le_of_lt hi)]
   · rw[gG,List.length_take] at hj
     rw[h3 j (by rw[gG];omega),yr k l o!,yr k (l.take i) (by rw[List.length_take];omega)]
     rw[List.g,List.g,List.getD_eq_getElem?_getD,List.getD_eq_getElem?_getD,List.getElem?_take_of_lt o!]
theorem Jp {l:List Fact} (h:(!decide ((ak l).2=0))=false):au l=0:=by
 have h:(ak l).2=0:=by simpa using h
 by_cases e:au l=0
 · exact e
 · rw[ak,decide_eq_false e] at h
   exact absurd h e
theorem Jq {l:List Fact} {k:Int} (h:(!decide ((ak l).2=0))=false) (h0:0≤k) (h1:k<((l.length:Nat):Int)):
 (1≤List.length ((([]:List Fact)++l).g k.toNat).kind∧List.length ((([]:List Fact)++l).g k.toNat).kind≤16)∧(1≤List.length ((([]:List Fact)++l).g k.toNat).item∧List.length ((([]:List Fact)++l).g k.toNat).item≤16)∧(1≤List.length ((([]:List Fact)++l).g k.toNat).ag∧List.length ((([]:List Fact)++l).g k.toNat).ag≤16):=by
 rw[List.nil_append]
 have c:=du.1 ((eI.1 (Jp h)).2 k.toNat o!)
 have a:=cz c.2.2.1
 have b:=cz c.2.2.2.1
 have d:=cz c.2.2.2.2.1
 have p:∀t:List UInt8,t≠ []→1≤t.length:=fun t ht=>List.length_pos_iff.2 ht
 exact ⟨⟨p _ a.2,a.1⟩,⟨p _ b.2,b.1⟩,⟨p _ d.2,d.1⟩⟩
def rp (v b:BitVec 64):BitVec 64:=(v^^^b)*1099511628211#64
theorem Fo {v w b:BitVec 64} (h:rp v b=rp w b):v=w:=by
 have k:∀x:BitVec 64,x*1099511628211#64*14886173955864302971#64=x:=fun x=>by
  rw[BitVec.mul_assoc,show (1099511628211#64*14886173955864302971#64:BitVec 64)=1#64 by decide,BitVec.mul_one]
 have h1:=congrArg (· *14886173955864302971#64) h
 simp only[rp,k] at h1
 have h2:=congrArg (· ^^^b) h1
 simpa [BitVec.xor_assoc] using h2
theorem CQ {v a b:BitVec 64} (h:rp v a=rp v b):a=b:=by
 have k:∀x:BitVec 64,x*1099511628211#64*14886173955864302971#64=x:=fun x=>by
  rw[BitVec.mul_assoc,show (1099511628211#64*14886173955864302971#64:BitVec 64)=1#64 by decide,BitVec.mul_one]
 have h1:=congrArg (· *14886173955864302971#64) h
 simp only[rp,k] at h1
 have h2:=congrArg (v^^^ ·) h1
 simpa [←BitVec.xor_assoc] using h2
def gq (l:List Int) (v:Int):Int:=l.foldl (fun v b=>m64 (aB v (IntKind.u64.wrap b)) 1099511628211) v
theorem nb (v:Int):gq [] v=v:=by rw[gq,List.foldl_nil]
theorem gM (b:Int) (l:List Int) (v:Int):gq (b::l) v=gq l (m64 (aB v (IntKind.u64.wrap b)) 1099511628211):=by rw[gq,List.foldl_cons,gq]
theorem wrap64 (x:Int):IntKind.u64.wrap x=x%18446744073709551616:=iB x
theorem CS (x:Int):BitVec.ofInt 64 (IntKind.u64.wrap x)=BitVec.ofInt 64 x:=by
 rw[wrap64]
 apply BitVec.eq_of_toInt_eq
 simp only[BitVec.toInt_ofInt]
 rw[Int.bmod_def,Int.bmod_def]
 simp
theorem pz (V:BitVec 64) (b:Int):m64 (aB (V.toNat:Nat) (IntKind.u64.wrap b)) 1099511628211=((rp V (BitVec.ofInt 64 b)).toNat:Nat):=by
 have hx:aB (V.toNat:Nat) (IntKind.u64.wrap b)=((V^^^BitVec.ofInt 64 b).toNat:Nat):=by
  show IntKind.u64.wrap ((BitVec.ofInt 64 ((V.toNat:Nat):Int)^^^BitVec.ofInt 64 (IntKind.u64.wrap b)).toNat:Nat)=_
  rw[CS,BitVec.ofInt_natCast,BitVec.ofNat_toNat,BitVec.setWidth_eq,wrap64]
  have:=(V^^^BitVec.ofInt 64 b).isLt
  omega
 rw[hx,m64,wrap64,rp,BitVec.toNat_mul]
 simp only[BitVec.toNat_ofNat]
 omega
theorem A_:∀(l:List Int) (V:BitVec 64),∃W:BitVec 64,gq l (V.toNat:Nat)=(W.toNat:Nat)
 | [],V=>⟨V,nb _⟩
 | b::l,V=>by
   rw[gM,pz];exact A_ l _
theorem wF:∀(l:List Int) (V W:BitVec 64),gq l (V.toNat:Nat)=gq l (W.toNat:Nat)→V=W
 | [],V,W,h=>by
   rw[nb,nb] at h
   exact BitVec.eq_of_toNat_eq o!
 | b::l,V,W,h=>by
   rw[gM,gM,pz,pz] at h
   exact Fo (wF l _ _ h)
theorem wG (a b:List Int) (v:Int):gq (a++b) v=gq b (gq a v):=by rw[gq,List.foldl_append,←gq,←gq]
theorem Jr {a b:List Int} {x y:Int} {v:Int} (hv:∃V:BitVec 64,v=(V.toNat:Nat)) (hx:0≤x∧x<256) (hy:0≤y∧y<256) (h:x≠y):gq (a++x::b) v≠gq (a++y::b) v:=by
 intro e
 obtain ⟨V,rfl⟩:=hv
 rw[wG,wG] at e
 obtain ⟨W,hW⟩:=A_ a V
 rw[hW] at e
 rw[gM,gM,pz,pz] at e
 have e:=congrArg BitVec.toNat (CQ (wF b _ _ e))
 obtain ⟨m,rfl⟩:∃m:Nat,x=(m:Int):=⟨x.toNat,by omega⟩
 obtain ⟨n,rfl⟩:∃n:Nat,y=(n:Int):=⟨y.toNat,by omega⟩
 rw[BitVec.ofInt_natCast,BitVec.ofInt_natCast,BitVec.toNat_ofNat,BitVec.toNat_ofNat] at e
 omega
theorem wH {f:Fact}:∀{k i:Nat} {v:Int},i+k=(aN f).length→dk f k i v=gq ((ae (aN f)).drop i) v
 | 0,i,v,h=>by
   rw[List.drop_eq_nil_of_le (by rw[dt];omega),nb,dk]
 | k+1,i,v,h=>by
   have hi:i<(ae (aN f)).length:=by rw[dt];omega
   rw[List.drop_eq_getElem_cons hi,dk,wH (k:=k) (i:=i+1) o!]
   have:(ae (aN f)).g i=(ae (aN f))[i]:=by rw[List.g,List.getD_eq_getElem?_getD,List.getElem?_eq_getElem hi];rfl
   rw[this,gM]
theorem O3 (a b:Int):∃V:BitVec 64,m64 a b=(V.toNat:Nat):=by
 refine ⟨BitVec.ofInt 64 (a*b),?_⟩
 rw[m64,wrap64,BitVec.toNat_ofInt]
 omega
theorem Fq (aq:Int):∃V:BitVec 64,∀f:Fact,bX aq f=gq (ae (aN f)) (V.toNat:Nat):=by
 obtain ⟨s,hs,V,hV⟩:∃s:Int,(∀f:Fact,bX aq f=dk f (List.length (aN f)) 0 s)∧∃V:BitVec 64,s=(V.toNat:Nat):=by
  refine ⟨_,fun f=>by rw[bX],O3 _ _⟩
 exact ⟨V,fun f=>by rw[hs,hV,wH o!,List.drop_zero]⟩
theorem uJ (a b:List UInt8):ae (a++b)=ae a++ae b:=List.map_append ..
theorem rq (x:UInt8) (b:List UInt8):ae (x::b)=((x.toNat:Nat):Int)::ae b:=rfl
theorem n_ (l:List UInt8):ay (ae l)=l:=by
 rw[ay,ae,List.map_map]
 exact List.map_id'' (fun x=>by simp) l
theorem L7 (a b:List Int):ay (a++b)=ay a++ay b:=List.map_append ..
theorem CT {X:List UInt8} {p:Nat} (hp:p<X.length) (c:Int):∃U V:List UInt8,X=U++X[p]::V∧ay ((ae X).set p c)=U++UInt8.ofNat c.toNat::V:=by
 refine ⟨X.take p,X.drop (p+1),?_,?_⟩
 · conv=>lhs;rw[←List.take_append_drop p X,List.drop_eq_getElem_cons hp]
 · have hb:p<(ae X).length:=by rw[dt];exact hp
   rw[List.set_eq_take_append_cons_drop,if_pos hb,L7]
   have e1:ay ((ae X).take p)=X.take p:=by rw[ae,←List.map_take,←ae,n_]
   have e2:ay ((ae X).drop (p+1))=X.drop (p+1):=by rw[ae,←List.map_drop,←ae,n_]
   rw[e1,ay,List.map_cons,←ay,e2]
theorem D9 (f:Fact):aN f=dD f.time++(32::f.kind)++(32::f.item)++(32::f.ag)++(32::ig f.number)++[10]:=by
 rw[aN]
 simp only[Lib.join_cons,Lib.joinTail,List.map_cons,List.map_nil,List.flatten_cons,List.flatten_nil,List.append_assoc,List.cons_append,List.nil_append,List.append_nil]
def w3 (f:Fact):List (List UInt8):=[f.kind,f.item,f.ag]
def O4 (f:Fact) (ws:List (List UInt8)):Fact:=⟨f.time,ws.g 0,ws.g 1,ws.g 2,f.number⟩
theorem CU {f:Fact} {i:Nat} (hi:i<3) {W:List UInt8} {U V:List UInt8} {x y:UInt8} (h:(w3 f).g i=U++x::V) (hW:W=U++y::V):
 ∃A B,aN f=A++x::B∧aN (O4 f ((w3 f).set i W))=A++y::B:=by
 subst hW
 rw[D9,D9]
 match i,hi with
 | 0,_=>
   have h:f.kind=U++x::V:=h
   refine ⟨dD f.time++32::U,V++(32::f.item)++(32::f.ag)++(32::ig f.number)++[10],by rw[h];simp,?_⟩
   show dD f.time++(32::(U++y::V))++(32::f.item)++(32::f.ag)++(32::ig f.number)++[10]=_
   simp
 | 1,_=>
   have h:f.item=U++x::V:=h
   refine ⟨dD f.time++(32::f.kind)++32::U,V++(32::f.ag)++(32::ig f.number)++[10],by rw[h];simp,?_⟩
   show dD f.time++(32::f.kind)++(32::(U++y::V))++(32::f.ag)++(32::ig f.number)++[10]=_
   simp
 | 2,_=>
   have h:f.ag=U++x::V:=h
   refine ⟨dD f.time++(32::f.kind)++(32::f.item)++32::U,V++(32::ig f.number)++[10],by rw[h];simp,?_⟩
   show dD f.time++(32::f.kind)++(32::f.item)++(32::(U++y::V))++(32::ig f.number)++[10]=_
   simp
def j7 (f:Fact) (i p:Nat) (c:Int):Fact:=O4 f ((w3 f).set i (ay ((ae ((w3 f).g i)).set p c)))
theorem L8 {f:Fact} {i p:Nat} {c:Int} (hi:i<3) (hp:p<((w3 f).g i).length) (hc:0≤c∧c<256) (bY:(ae ((w3 f).g i)).g p≠c) (a:Int):bX a f≠bX a (j7 f i p c):=by
 obtain ⟨U,V,h1,h2⟩:=CT hp c
 obtain ⟨A,B,t1,t2⟩:=CU hi h1 h2
 obtain ⟨s,hs⟩:=Fq a
 have hg:(ae ((w3 f).g i)).g p=(((((w3 f).g i)[p]).toNat:Nat):Int):=by
  have hb:p<(ae ((w3 f).g i)).length:=by rw[dt];exact hp
  rw[List.g,List.getD_eq_getElem?_getD,List.getElem?_eq_getElem hb]
  simp [ae]
 rw[hg] at bY
 rw[hs,hs,t1,show aN (j7 f i p c)=A++UInt8.ofNat c.toNat::B from t2,uJ,rq,uJ,rq]
 have ZV:(((UInt8.ofNat c.toNat).toNat:Nat):Int)=c:=by
  rw[UInt8.toNat_ofNat'];omega
 have hx:=(((w3 f).g i)[p]).toNat_lt
 rw[ZV]
 exact Jr ⟨s,rfl⟩ ⟨by omega,by omega⟩ hc bY
def S (l:List Fact):Nat→Int
 | 0=>0
 | i+1=>bX (S l i) (l.g i)
def sl (l:List Fact):Nat→Nat→List Int
 | _,0=> []
 | i,k+1=>S l (i+1)::sl l (i+1) k
theorem yP (l:List Fact):∀i k,(sl l i k).length=k
 | _,0=>rfl
 | i,k+1=>by rw[sl,List.length_cons,yP]
theorem O5 (l:List Fact):∀i k j,j<k→(sl l i k).g j=S l (i+j+1)
 | i,k+1,0,h=>rfl
 | i,k+1,j+1,h=>by
   show (sl l (i+1) k).g j=_
   rw[O5 l (i+1) k j o!,show i+1+j+1=i+(j+1)+1 by omega]
theorem D_ (l:List Fact):∀i k n,n≤k→(sl l i k).take n=sl l i n
 | i,k,0,h=>rfl
 | i,k+1,n+1,h=>by rw[sl,List.take_succ_cons,D_ l (i+1) k n o!,sl]
theorem D' {l o:List Fact}:∀{k:Nat},(∀j,j<k→l.g j=o.g j)→S l k=S o k
 | 0,_=>rfl
 | k+1,h=>by rw[S,S,D' (k:=k) fun j hj=>h j o!,h k o!]
theorem Js {l o:List Fact} {i k:Nat} (h:∀j,j<i+k→l.g j=o.g j):sl l i k=sl o i k:=by
 induction k generalizing i with
 | zero=>rfl
 | succ k ih=>rw[sl,sl,D' fun j hj=>h j o!,ih fun j hj=>h j o!]
theorem A' (l:List Fact):∀(k i:Nat) (v:List Int),cT l k i v (S l i)=v++sl l i k
 | 0,i,v=>by rw[cT,sl,List.append_nil]
 | k+1,i,v=>by
   rw[cT]
   have:=A' l k (i+1) (v++[S l (i+1)])
   rw[S] at this
   rw[this,sl,List.append_assoc,S];rfl
theorem j8 {l:List Fact} (h:au l=0):ak l=(sl l 0 l.length,0):=by
 rw[ak,decide_eq_true h]
 show (cT l l.length 0 [] (S l 0),(0:Int))=_
 rw[A',List.nil_append]
theorem Fs {l:List Fact} (h:au l≠0):ak l=([],au l):=by
 rw[ak,decide_eq_false h];rfl
theorem ru {l:List Fact} {n:Nat}:∀{k i:Nat},i+k≤n→ca (sl l 0 n) l k i (S l i)=none
 | 0,i,h=>rfl
 | k+1,i,h=>by
   have e:(sl l 0 n).g i=S l (i+1):=by rw[O5 l 0 n i o!,Nat.zero_add]
   rw[ca,e,decide_eq_true (show S l (i+1)=bX (S l i) (l.g i) from rfl)]
   exact ru (k:=k) (i:=i+1) o!
theorem wI {l o:List Fact} {n q:Nat} (hq:q<n) (hs:∀j,j<q→o.g j=l.g j) (bY:S l (q+1)≠bX (S l q) (o.g q)):∀{k i:Nat},i≤q→q<i+k→ca (sl l 0 n) o k i (S l i)=some (((q:Nat):Int),0)
 | 0,i,h,h2=>by omega
 | k+1,i,h,h2=>by
   have e:(sl l 0 n).g i=S l (i+1):=by rw[O5 l 0 n i o!,Nat.zero_add]
   rw[ca,e]
   by_cases z:i=q
   · subst z
     rw[decide_eq_false bY];rfl
   · rw[hs i o!,decide_eq_true (show S l (i+1)=bX (S l i) (l.g i) from rfl)]
     exact wI hq hs bY (k:=k) (i:=i+1) o! o!
theorem Ba (a:List Int):cd a a=true:=by
 have key:∀k i,eK a a k i=none:=by
  intro k
  induction k with
  | zero=>intro i;rfl
  | succ k ih=>intro i;rw[eK,decide_eq_true rfl];exact ih _
 rw[cd,decide_eq_true rfl,key];rfl
theorem sa {l:List Fact} {k j:Nat} (h:j<k):(l.take k).g j=l.g j:=by
 rw[List.g,List.g,List.getD_eq_getElem?_getD,List.getD_eq_getElem?_getD,List.getElem?_take_of_lt h]
theorem Bb {l:List Fact} (h:au l=0) (k:Nat):au (l.take k)=0:=by
 obtain ⟨h1,h2⟩:=eI.1 h
 refine eI.2 ⟨by rw[List.length_take];omega,fun i hi=>?_⟩
 rw[List.length_take] at hi
 rw[List.take_take,Nat.min_eq_left o!,sa o!]
 exact h2 i o!
def O6 (b:Int) (i:Nat):Bool:=(bif (!(bif (decide (97≤b)) then (decide (b≤122)) else false)) then (bif (decide (((i:Nat):Int)=0)) then true else (!(bif (decide (48≤b)) then (bif (decide (b≤57)) then true else (decide (b=45))) else (decide (b=45))))) else false)
theorem yQ {t:List UInt8}:∀{k i:Nat},bS t k i=none↔∀j,i≤j→j<i+k→O6 (((t.g j).toNat:Nat):Int) j=false
 | 0,i=>⟨fun _ j p q=>by omega,fun _=>rfl⟩
 | k+1,i=>by
   have e:bS t (k+1) i=(bif O6 (((t.g i).toNat:Nat):Int) i then some false else bS t k (i+1)):=rfl
   rw[e]
   cases z:O6 (((t.g i).toNat:Nat):Int) i with
   | true=>exact ⟨fun h=>(by cases h),fun h=>by rw[h i (Nat.le_refl _) o!] at z;cases z⟩
   | false=>
     show bS t k (i+1)=none↔_
     rw[yQ (k:=k) (i:=i+1)]
     refine ⟨fun h j p q=>?_,fun h j p q=>h j o! o!⟩
     by_cases y:j=i
     · rw[y];exact z
     · exact h j o! o!
theorem wJ {t:List UInt8}:∀{k i:Nat} {r:Bool},bS t k i=some r→r=false
 | 0,i,r,h=>by cases h
 | k+1,i,r,h=>by
   have e:bS t (k+1) i=(bif O6 (((t.g i).toNat:Nat):Int) i then some false else bS t k (i+1)):=rfl
   rw[e] at h
   cases z:O6 (((t.g i).toNat:Nat):Int) i with
   | true=>rw[z] at h;cases h;rfl
   | false=>rw[z] at h;exact wJ (k:=k) h
theorem uK {t:List UInt8}:bn t=true↔t≠ []∧t.length≤16∧∀j,j<t.length→O6 (((t.g j).toNat:Nat):Int) j=false:=by
 rw[bn]
 by_cases a:t=[]
 · rw[decide_eq_true a];exact ⟨fun h=>(by cases h),fun h=>absurd a h.1⟩
 · rw[decide_eq_false a,ao]
   by_cases b:(16:Int)<((List.length t:Nat):Int)
   · rw[decide_eq_true b];exact ⟨fun h=>(by cases h),fun h=>by omega⟩
   · rw[decide_eq_false b,ao]
     cases e:bS t (List.length t) 0 with
     | none=>exact ⟨fun _=>⟨a,by omega,fun j hj=>yQ.1 e j (Nat.zero_le _) o!⟩,fun _=>rfl⟩
     | some r=>
       have r0:=wJ e
       subst r0
       refine ⟨fun h=>(by cases h),fun h=>?_⟩
       have:=(yQ (t:=t) (k:=t.length) (i:=0)).2 fun j _ q=>h.2.2 j o!
       rw[this] at e;cases e
theorem O7 {l:List UInt8} {i:Nat} (h:i<l.length) (x:UInt8) (j:Nat):(l.set i x).g j=if i=j then x else l.g j:=by
 rw[List.g,List.getD_eq_getElem?_getD,List.getElem?_set]
 by_cases e:i=j
 · rw[if_pos e,if_pos e,if_pos h];rfl
 · rw[if_neg e,if_neg e,←List.getD_eq_getElem?_getD];rfl
theorem L9 {X:List UInt8} {p:Nat} {c:Int}:ay ((ae X).set p c)=X.set p (UInt8.ofNat c.toNat):=by
 rw[ay,List.map_set,←ay,n_]
theorem uL {X:List UInt8} {p:Nat} {c:Int} (h:bn X=true) (hp:p<X.length) (hc:97≤c∧c≤122):bn (ay ((ae X).set p c))=true:=by
 obtain ⟨h1,h2,h3⟩:=uK.1 h
 rw[L9]
 refine uK.2 ⟨fun e=>?_,by rw[List.length_set];exact h2,fun j hj=>?_⟩
 · have:=congrArg List.length e
   rw[List.length_set,List.length_nil] at this;omega
 · rw[List.length_set] at hj
   rw[O7 hp]
   split
   · have:(((UInt8.ofNat c.toNat).toNat:Nat):Int)=c:=by rw[UInt8.toNat_ofNat'];omega
     rw[this,O6,decide_eq_true hc.1,decide_eq_true hc.2];rfl
   · exact h3 j hj
theorem j9 {l:List Fact} {i:Nat} (h:i<l.length) (x:Fact):(l.set i x).g i=x:=AK h x
theorem qy {l:List Fact} {i j:Nat} (h:i≠j) (x:Fact):(l.set i x).g j=l.g j:=AL h x
theorem Ea {f:Fact} {i p:Nat} {c:Int} (hi:i<3) (hp:p<((w3 f).g i).length) (hc:97≤c∧c≤122) (h1:bn f.kind=true) (h2:bn f.item=true) (h3:bn f.ag=true):
 bn (j7 f i p c).kind=true∧bn (j7 f i p c).item=true∧bn (j7 f i p c).ag=true∧(j7 f i p c).time=f.time∧(j7 f i p c).number=f.number:=by
 match i,hi with
 | 0,_=>exact ⟨uL h1 hp hc,h2,h3,rfl,rfl⟩
 | 1,_=>exact ⟨h1,uL h2 hp hc,h3,rfl,rfl⟩
 | 2,_=>exact ⟨h1,h2,uL h3 hp hc,rfl,rfl⟩
theorem uM {l:List Fact} (h:au l=0) {k:Nat} (hk:k<l.length) {i p:Nat} {c:Int} (hi:i<3) (hp:p<((w3 (l.g k)).g i).length) (hc:97≤c∧c≤122):au (l.set k (j7 (l.g k) i p c))=0:=by
 obtain ⟨r1,r2⟩:=eI.1 h
 have tm:∀j,((l.set k (j7 (l.g k) i p c)).g j).time=(l.g j).time:=fun j=>by
  by_cases e:k=j
  · subst e;rw[j9 hk]
    have a:=du.1 (r2 k hk)
    exact (Ea hi hp hc a.2.2.1 a.2.2.2.1 a.2.2.2.2.1).2.2.2.1
  · rw[qy e]
 refine eI.2 ⟨by rw[List.length_set];exact r1,fun j hj=>?_⟩
 rw[List.length_set] at hj
 have b:=du.1 (r2 j hj)
 have lt:0<((l.set k (j7 (l.g k) i p c)).take j).length→(((l.set k (j7 (l.g k) i p c)).take j).g (((l.set k (j7 (l.g k) i p c)).take j).length - 1)).time≤((l.set k (j7 (l.g k) i p c)).g j).time:=fun q=>by
  have e:((l.set k (j7 (l.g k) i p c)).take j).length=j:=by rw[List.length_take,List.length_set];omega
  have e2:(l.take j).length=j:=by rw[List.length_take];omega
  rw[e] at q ⊢
  rw[sa o!,tm,tm]
  have:=b.2.2.2.2.2 o!
  rw[e2,sa o!] at this
  exact this
 by_cases e:k=j
 · subst e
   have a:=Ea hi hp hc b.2.2.1 b.2.2.2.1 b.2.2.2.2.1
   refine du.2 ?_
   rw[j9 hk] at lt ⊢
   exact ⟨by rw[a.2.2.2.1];exact b.1,by rw[a.2.2.2.2];exact b.2.1,a.1,a.2.1,a.2.2.1,lt⟩
 · refine du.2 ?_
   rw[qy e] at lt ⊢
   exact ⟨b.1,b.2.1,b.2.2.1,b.2.2.2.1,b.2.2.2.2.1,lt⟩
theorem CV {l:List Fact} (h:au l=0) {k:Nat} (hk:k<l.length) {i p:Nat} {c:Int} (hi:i<3) (hp:p<((w3 (l.g k)).g i).length) (hc:97≤c∧c≤122) (bY:(ae ((w3 (l.g k)).g i)).g p≠c):aE (l.set k (j7 (l.g k) i p c)) (ak l).1=(((k:Nat):Int),0):=by
 rw[aE,decide_eq_true (uM h hk hi hp hc),j8 h]
 show (bif (!decide ((((sl l 0 l.length).length:Nat):Int)=(((l.set k (j7 (l.g k) i p c)).length:Nat):Int))) then ((0:Int),(1:Int)) else (match (ca (sl l 0 l.length) (l.set k (j7 (l.g k) i p c)) (l.set k (j7 (l.g k) i p c)).length 0 (S l 0)) with | none=>((((l.set k (j7 (l.g k) i p c)).length:Nat):Int),0) | some Jm=>(Jm.1,Jm.2)))=_
 rw[decide_eq_true (by rw[yP,List.length_set]),wI (q:=k) hk (fun j hj=>qy o! _) ?_ (Nat.zero_le _) (by rw[List.length_set];omega)]
 · rfl
 · rw[j9 hk]
   exact L8 hi hp ⟨by omega,by omega⟩ bY _
theorem Bc {l:List Fact} (h:au l=0):aE l (ak l).1=(((l.length:Nat):Int),0):=by
 rw[aE,decide_eq_true h,j8 h]
 show (bif (!decide ((((sl l 0 l.length).length:Nat):Int)=((l.length:Nat):Int))) then ((0:Int),(1:Int)) else (match (ca (sl l 0 l.length) l l.length 0 (S l 0)) with | none=>(((l.length:Nat):Int),0) | some Jm=>(Jm.1,Jm.2)))=_
 rw[decide_eq_true (by rw[yP]),ru o!];rfl
theorem CW {l:List Fact} (h:au l=0) {k:Nat} (hk:k≤l.length):ak (l.take k)=((ak l).1.take k,0):=by
 rw[j8 (Bb h k),j8 h,List.length_take,Nat.min_eq_left hk]
 show (_,(0:Int))=((sl l 0 l.length).take k,(0:Int))
 rw[D_ l 0 _ k hk,Js (l:=l.take k) (o:=l) fun j hj=>sa o!]
end
end Go.Proofs.aP
