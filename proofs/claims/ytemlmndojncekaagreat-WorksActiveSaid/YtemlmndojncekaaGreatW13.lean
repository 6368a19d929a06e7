import Derived.Test.YtemlmndojncekaaGreatW0
import Derived.Test.YtemlmndojncekaaGreatW11
import Derived.Test.YtemlmndojncekaaGreatW12
import Derived.Test.YtemlmndojncekaaGreatW2
import Derived.Test.YtemlmndojncekaaGreatW3
import Derived.Test.YtemlmndojncekaaGreatW8
import Derived.Test.YtemlmndojncekaaGreatW4
namespace Go.Proofs.aQ
open Go.Proofs Ab
noncomputable section
set_option maxRecDepth 100000
set_option maxHeartbeats 4000000
set_option linter.unusedVariables false
set_option linter.unusedSimpArgs false
theorem dU {p:Prop} (h:p:=by first | omega | assumption | exact (cX (by assumption)) | exact (cX (by assumption)).ro | exact (cX (by assumption)).nr | exact Nat.le_trans (cX (by assumption)).nt (by decide) | exact (rl (by assumption)).2 | exact afi (cX (by assumption)) | exact afg (cX (by assumption)) | (have u_:=(rl (by assumption)).1;have v_:=(cX (by assumption)).nt;omega)):p:=h
def HW:Code:=(Tryz.f6.body).getD .skip
theorem rO:Tryz.f6.body=some HW:=by kernel_rfl
def iF (j:cx) (oqd:List Int):List Int×Int:=(bif (!decide ((dC j)=0)) then ([],(dC j)) else (bif (!(fB oqd ((j.ab.length:Nat):Int))) then ([],1) else (bif (!((ef j (aK j).2.1 (aK j).2.2 oqd 0).1)) then ([],9) else ((ef j (aK j).2.1 (aK j).2.2 oqd 0).2.2,0))))
theorem PJ {d:Nat} {h:aC} {bt:AV} (j:cx) (oqd:List Int) (bV:aR.ok h j) (eC:b8 h .i64 3 bt oqd) (l6:j.af.length=0) (ch:Tidy h):∃z hk,cN (d+12) (.fn 6) [(AV.agg [j.aw,j.ao]),bt] h= .ret (AV.tuple [z,(Zi (iF j oqd).2)]) hk∧bE h hk∧b8 hk .i64 3 z (iF j oqd).1:=by
 have s9:=eC.small
 have kb:=bV.1.small
 have kf:=bV.2.small
 obtain ⟨h1,di,cS,jU,bm,bP⟩:=jE ch (aM.cells [j.aw,j.ao] 25 false)
 have bA:Has h h1:=bP
 have k2:=Dq (d:=d) j (aR.mono bA bV) cS
 have dJ:=fun {al ps} (k:Pk al _ ps)=>(NN di (fun i=>(Pt i))<|CN 2<|MM (aO 25 0 (AV.agg [j.aw,j.ao]) bm k!)<|EE k2<|CN 2<|VV (kS 29 false true .i64 (dC j) 0)<|k:Pk _ [] ps)
 rcases Bool.eq_false_or_eq_true (!decide ((dC j)=0)) with f0 | f0
 · have jf:=P7 f0
   have e:iF j oqd=([],(dC j)):=by simp only[iF,f0,aj,ai]
   rw[e]
   exact ⟨.aG,gA rfl (bb Tryz.func6 rO rfl (.inr rfl) (pk (d+11) _ _ h _ h1 (dJ<|BB f0<|CN 3<|ZZ) k!) k!) ch ⟨cS,bA,by omega⟩ (P:=fun hh=>b8 hh .i64 3 AV.aG ([])) (b8.nil k! k!) fun _=>b8.nil k! k!⟩
 · have jf:=P9 f0
   have nt:=(cX jf).nt
   have D_:cb (some (.slice 40)) (some j.aw)=some (Zn j.ab.length):=bV.1.len
   have k5:=Ej (d:=d+9) oqd ((j.ab.length:Nat):Int) (eC.has bA) dU dU cS
   have hX:=fun {al ps} (k:Pk al _ ps)=>(dJ<|BB f0<|CN 2<|MM (aO 22 0 j.aw bm k!)<|VV D_<|EE k5<|CC<|k:Pk _ [] ps)
   rcases Bool.eq_false_or_eq_true (!(fB oqd ((j.ab.length:Nat):Int))) with f1 | f1
   · have e:iF j oqd=([],1):=by simp only[iF,f0,f1,aj,ai]
     rw[e]
     exact ⟨.aG,gA rfl (bb Tryz.func6 rO rfl (.inr rfl) (pk (d+11) _ _ h _ h1 (hX<|BB f1<|CN 2<|ZZ) k!) k!) ch ⟨cS,bA,by omega⟩ (P:=fun hh=>b8 hh .i64 3 AV.aG ([])) (b8.nil k! k!) fun _=>b8.nil k! k!⟩
   · obtain ⟨pb7,Xa,zb9,anu,lR,PF,jA,Au,Av,So,ahK,ahL,ahM,ahN,ahO,ahP,ahQ,ahR⟩:=p_ (d:=d+8) j (aR.mono bA bV) dU dU dU cS
     have iQ:=jA.y
     have aaN:h1.nx≤lR.nx:=jA.n
     have ahS:=oK j dU
     obtain rfl:=nv.ajA So o!
     have jl:Has h lR:=bA.trans jA.a
     have akF:=iQ _ _ Au
     have akG:=iQ _ _ Av
     obtain ⟨On,abc,yX,Y4,abd,rn⟩:=jE iQ (aM.cells [AV.aG,AV.aG,AV.aG,AV.aG,AV.aG] 78 false)
     have sR:Has h On:=jl.trans rn
     have Ds:Has lR On:=rn
     have ahU:AV.scalar j.aw=true:=bV.1.scalar
     have ahV:AV.scalar j.ao=true:=bV.2.scalar
     obtain ⟨Ly,abe,vj,akH,PI,mP⟩:=n5 (t:=78) (n:=5) (i:=lR.nx) (L:=[j.aw,j.ao,(AV.slice pb7 0 j.ab.length j.ab.length false),(AV.slice Xa 0 j.ab.length j.ab.length false),AV.aG]) yX abd k! rfl rfl (by simp only[AV.cells,List.all_cons,List.all_nil,Bool.and_true,Bool.and_self,gr,eO,gu,gv,dG,jK,jL,jM,jN,jO,gz,ahU,ahV])
     have D6:Has h Ly:=Has.dg sR mP ch o!
     have Wt:Has lR Ly:=Has.dg Ds mP iQ o!
     obtain ⟨I_,Aw,MA,uW,uX,im⟩:=dz vj (mP _ _ o! (rn _ _ Au))
     have xP:Has h I_:=bG D6 (by first | assumption | exact ij ch o!) im
     obtain ⟨Dm,Ar,Mp,uQ,uR,jr⟩:=dz Aw ((im _ o!).trans (mP _ _ o! (rn _ _ Av)))
     have tz:Dm.get pb7=none:=(jr _ o!).trans uW
     have sq:Has h Dm:=bG xP (by first | assumption | exact ij ch o!) jr
     obtain ⟨W0,abf,JM,akI,Dt,UF,ad0,MB,ad1⟩:=I5 (d:=d+5) (h:=Dm) (pqN:=j.ab.length) (sqN:=j.ab.length) j (aK j).2.1 (aK j).2.2 oqd 0 (aR.mono sq bV) (eC.has sq) (mP _ _ o! (rn _ _ Au)) l! tz (mP _ _ o! (rn _ _ Av)) l! uQ dU dU dU dU dU dU dU dU dU o! Ar vj (uR.trans uX) o!
     have JO:Has h W0:=(sq.trans Dt)
     have ow:=fun {al ps} (k:Pk al _ ps)=>(hX<|BM f1 (aO 25 0 (AV.agg [j.aw,j.ao]) bm k!)<|EE PF<|NN abc (fun i=>(Pt i))<|SS abe<|MM (aO 78 0 (AV.agg [j.aw,j.ao,(AV.slice pb7 0 j.ab.length j.ab.length false),(AV.slice Xa 0 j.ab.length j.ab.length false),AV.aG]) PI k!)<|CC<|EE abf<|CC<|k:Pk _ [] ps)
     rcases Bool.eq_false_or_eq_true (!((ef j (aK j).2.1 (aK j).2.2 oqd 0).1)) with f2 | f2
     · have e:iF j oqd=([],9):=by simp only[iF,f0,f1,f2,aj,ai]
       rw[e]
       exact ⟨.aG,gA rfl (bb Tryz.func6 rO rfl (.inr rfl) (pk (d+11) _ _ h _ W0 (ow<|BB f2<|CN 2<|ZZ) k!) k!) ch ⟨JM,JO,by omega⟩ (P:=fun hh=>b8 hh .i64 3 AV.aG ([])) (b8.nil k! k!) fun _=>b8.nil k! k!⟩
     · have e:iF j oqd=((ef j (aK j).2.1 (aK j).2.2 oqd 0).2.2,0):=by simp only[iF,f0,f1,f2,aj,ai]
       rw[e]
       exact ⟨(AV.slice Xa 0 j.ab.length j.ab.length false),gA rfl (bb Tryz.func6 rO rfl (.inr rfl) (pk (d+11) _ _ h _ W0 (ow<|BC f2<|MM (aO 26 3 (AV.slice Xa 0 j.ab.length j.ab.length false) (Dt _ _ ((jr _ o!).trans ((im _ o!).trans PI))) k!)<|CN 2<|ZZ) k!) k!) ch ⟨JM,JO,by omega⟩ (P:=fun hh=>b8 hh .i64 3 (AV.slice Xa 0 j.ab.length j.ab.length false) (ef j (aK j).2.1 (aK j).2.2 oqd 0).2.2) (b8.own (op:=false) k! k! MB l! o!) fun v=>(yj (TA v) o!).elim⟩
def ar (j:cx) (oqd:List Int):List Int×Int:=bif decide (0<j.af.length) then jT j oqd else iF j oqd
theorem PK {d:Nat} {h:aC} {bt:AV} (j:cx) (oqd:List Int) (bV:aR.ok h j) (eC:b8 h .i64 3 bt oqd) (ch:Tidy h):∃z hk,cN (d+12) (.fn 6) [(AV.agg [j.aw,j.ao]),bt] h= .ret (AV.tuple [z,(Zi (ar j oqd).2)]) hk∧bE h hk∧b8 hk .i64 3 z (ar j oqd).1:=by
 rw[ar]
 by_cases r:0<j.af.length
 · rw[decide_eq_true r,aj];exact Sn j oqd bV eC r ch
 · rw[decide_eq_false r,ai];exact PJ j oqd bV eC o! ch
def zj:Code:=(Tryz.f61.body).getD .skip
theorem HX:Tryz.f61.body=some zj:=by kernel_rfl
def MC:Code:=(bw zj).getD 0 .skip
def iz (t:List Int):Nat→Nat→Option (Bool)
 | 0,_=>none
 | dq+1,i0=>(bif (decide ((t.g 323)<(t.g (i0*2+1)))) then some false else iz t dq (i0+1))
theorem zk {d:Nat} {h:aC} (tO:Nat) (t:List Int) (tP:List AV) (tQ:List AV) (tE:TypeId) (bk:Nat) (hF:0≤t.g 322) (je:t.g 322≤161) (mI:tP.length=tO) (nq:t.length=324):∀(k_ i_:Nat) (_:i_+k_=(t.g 322).toNat) (x:Nat→AV) (hh:aC) (aI:Tidy hh) (aE:Has h hh) (br:hh.get bk=some (aM.cells (tP++zs .i64 t++tQ) tE false)),aF (cN (d)) MC ⟨((AV.ptr bk tO)::rx x 1 11 ((AV.slice bk (tO+0) (t.g 322).toNat 161 false)::(Zn (t.g 322).toNat)::(Zn i_)::rx x 15 11 [])),hh,[],.no⟩ (.exit 0) hh (fun y=>((AV.ptr bk tO)::rx y 1 11 ((AV.slice bk (tO+0) (t.g 322).toNat 161 false)::(Zn (t.g 322).toNat)::rx y 14 12 []))) (fun r y=>((AV.ptr bk tO)::(y 1)::(AV.bool r)::rx y 3 9 ((AV.slice bk (tO+0) (t.g 322).toNat 161 false)::(Zn (t.g 322).toNat)::rx y 14 12 []))) (iz t k_ i_)
 | 0,i0,fX,x,hh,aI,aE,br=>by
   have q1:(decide (((i0:Nat):Int)<(((t.g 322).toNat:Nat):Int)))=false:=d!
   exact aF.out rfl (pk (d) _ _ hh _ hh (VV (bL 3 false false .i64 ((i0:Nat):Int) (((t.g 322).toNat:Nat):Int))<|BB q1<|ZZ) k!) (bE.refl aI) k!
 | dq+1,i0,fX,x,hh,aI,aE,br=>by
   have sU:=aI _ _ br
   have q1:(decide (((i0:Nat):Int)<(((t.g 322).toNat:Nat):Int)))=true:=d!
   have iW:bO env (some (.slice 125)) (some (AV.slice bk (tO+0) (t.g 322).toNat 161 false)) (some (Zn i0))=some (AV.ptr bk ((tO+0)+i0*2)):=Bh (z:=2) (k:=i0) k! o! o!
   have ld3:bh env hh 125 (AV.ptr bk ((tO+0)+i0*2))=some (AV.agg [(Zi (t.g (i0*2))),(Zi (t.g (i0*2+1)))]):=(JK (j:=i0*2) (o:=tO) k! k! br o! l! o!)
   obtain ⟨h4,IB,lI,VP,LF,xb⟩:=jE aI (aM.cells [(Zi 0),(Zi 0)] 125 false)
   have jC:Has hh h4:=xb
   obtain ⟨h5,Y8,pZ,ago,OF,By⟩:=n5 (t:=125) (n:=2) (i:=hh.nx) (L:=[(Zi (t.g (i0*2))),(Zi (t.g (i0*2+1)))]) lI LF k! rfl rfl (by simp only[AV.cells,List.all_cons,List.all_nil,Bool.and_true,Bool.and_self,gr,eO,gu,gv,dG,jK,jL,jM,jN,jO,gz])
   have hG:Has hh h5:=Has.dg jC By aI o!
   have tD:bh env h5 3 (AV.ptr bk (tO+323))=some (Zi (t.g 323)):=(fW (j:=323) (o:=tO) k! (By _ _ o! (xb _ _ br)) o! l! o!)
   have dJ:=fun {al ps} (k:Pk al _ ps)=>(VV (bL 3 false false .i64 ((i0:Nat):Int) (((t.g 322).toNat:Nat):Int))<|BV q1 iW<|MM ld3<|NN IB (fun i=>(Pt i))<|SS Y8<|CC<|MM (aO 3 1 (Zi (t.g (i0*2+1))) OF k!)<|CN 3<|MM tD<|VV (dw 3 false false .i64 (t.g (i0*2+1)) (t.g 323))<|HH (aO 3 1 (Zi (t.g (i0*2+1))) OF k!)<|HH (show AV.same 20 (Zi (t.g (i0*2+1))) (Zi (t.g (i0*2+1)))=true from aS 19 _ _)<|HH tD<|HH (show AV.same 20 (Zi (t.g 323)) (Zi (t.g 323))=true from aS 19 _ _)<|k:Pk _ [] ps)
   rcases Bool.eq_false_or_eq_true (decide ((t.g 323)<(t.g (i0*2+1)))) with f1 | f1
   · have fP:=of_decide_eq_true f1
     exact aF.ret false (by simp only[iz,f1,aj,ai]) (pk (d) _ _ hh _ h5 (dJ<|BC f1<|ZZ) k!) (⟨pZ,hG,by omega⟩) k!
   · have fP:=of_decide_eq_false f1
     have u8:=fi 3 false true i0 1 o!
     exact aF.round (by simp only[iz,f1,aj,ai]) (pk (d) _ _ hh _ h5 (dJ<|BV f1 u8<|CC<|ZZ) k!) (⟨pZ,hG,by omega⟩) _ k! (fun x=>zk tO t tP tQ tE bk hF je mI nq dq (i0+1) o! x h5 pZ (aE.trans hG) (By _ _ o! (xb _ _ br)))
def kB (t:List Int):Bool:=(match (iz t (t.g 322).toNat 0) with | none=>true | some rr3=>rr3)
theorem Sp {d:Nat} {h:aC} {tP tQ:List AV} {tE:TypeId} (t:List Int) (tB:Nat) (tO:Nat) (yW:h.get tB=some (aM.cells (tP++zs .i64 t++tQ) tE false)) (ac4:tP.length=tO) (ac5:t.length=324) (l6:0≤t.g 322) (om:t.g 322≤161) (ch:Tidy h):cN (d+1) (.fn 61) [(AV.ptr tB tO)] h= .ret (AV.bool (kB t)) h:=by
 have ld1:bh env h 3 (AV.ptr tB (tO+322))=some (Zi (t.g 322)):=(fW (j:=322) (o:=tO) k! yW o! l! o!)
 have sl2:fe env 126 (AV.ptr tB (tO+0)) (none) (some (Zi (t.g 322))) (none)=some (AV.slice tB (tO+0) (t.g 322).toNat 161 false):=D1 (e:=125) (size:=2) k! k! (hi:=(t.g 322).toNat) o! o!
 have hX:=fun {al ps} (k:Pk al _ ps)=>(CN 7<|MM ld1<|QQ sl2<|CN 2<|HH ld1<|HH (show AV.same 20 (Zi (t.g 322)) (Zi (t.g 322))=true from aS 19 _ _)<|k:Pk _ [] ps)
 have JZ:=zk (d:=d) (h:=h) tO t tP tQ tE tB o! o! o! o! (t.g 322).toNat 0 o! (fun k_=>(((AV.ptr tB tO)::AV.undef::(AV.bool false)::AV.undef::AV.undef::(AV.ptr tB tO)::(AV.ptr tB tO)::(AV.ptr tB (tO+0))::(AV.ptr tB tO)::(AV.ptr tB tO)::(AV.ptr tB (tO+322))::(Zi (t.g 322))::(AV.slice tB (tO+0) (t.g 322).toNat 161 false)::(Zn (t.g 322).toNat)::(Zi 0)::jX 11):List AV).getD k_ AV.undef) h ch (Has.refl _) yW
 cases ly:iz t (t.g 322).toNat 0 with
 | none=>
   obtain ⟨MV,h4,kK,f_⟩:=aF.n ly JZ
   have jC:Has h h4:=f_.a
   have e:kB t=true:=by simp only[kB,ly,aj,ai]
   rw[e]
   exact aH rfl (bb Tryz.func61 HX rfl (.inr rfl) (pk (d) _ _ h _ h4 (hX<|LL kK<|CC<|ZZ) k!) k!) jC rfl
 | some rr3=>
   obtain ⟨MV,h4,kK,f_⟩:=aF.r ly JZ
   have jC:Has h h4:=f_.a
   have e:kB t=rr3:=by simp only[kB,ly,aj,ai]
   rw[e]
   exact aH rfl (bb Tryz.func61 HX rfl (.inr rfl) (pk (d) _ _ h _ h4 (hX<|LL kK<|ZZ) k!) k!) jC rfl
theorem UG {t:List Int}:∀(k i:Nat),(iz t k i=none∧∀j,i≤j→j<i+k→us t j≤t.g 323)∨(iz t k i=some false∧∃j,i≤j∧j<i+k∧t.g 323<us t j)
 | 0,i=> .inl ⟨by rw[iz],fun j p q=>by omega⟩
 | k+1,i=>by
   rw[iz]
   by_cases f:t.g 323<us t i
   · rw[decide_eq_true (show t.g 323<t.g (i*2+1) from f),aj]
     exact .inr ⟨rfl,i,Nat.le_refl _,by omega,f⟩
   · rw[decide_eq_false (show ¬t.g 323<t.g (i*2+1) from f),ai]
     rcases UG (t:=t) k (i+1) with ⟨e,g⟩ | ⟨e,j,a,b,c⟩
     · exact .inl ⟨e,fun j p q=>by
        by_cases z:j=i
        · subst z;omega
        · exact g j o! o!⟩
     · exact .inr ⟨e,j,by omega,by omega,c⟩
theorem Wv {t:List Int} {n:Nat} (T:lS t n):kB t=true↔∀k,k<n→us t k≤t.g 323:=by
 rw[kB,T.cn,Int.toNat_natCast]
 rcases UG (t:=t) n 0 with ⟨e,g⟩ | ⟨e,j,a,b,c⟩
 · rw[e];exact ⟨fun _ k hk=>g k (Nat.zero_le _) o!,fun _=>rfl⟩
 · rw[e];exact ⟨fun q=>(by cases q),fun q=>by have:=q j o!;omega⟩
theorem abg {t:List Int} {n:Nat} (T:lS t n):kB t=true↔∀m,0≤m→yE t m n≤t.g 323:=by
 rw[Wv T]
 constructor
 · intro h m hm
   obtain ⟨k,a,b,c⟩:=yh (t:=t) (m:=m) (by rw[T.zero];exact hm) T.lo T.up
   rw[uz a c b];exact h k a
 · intro h k hk
   have:=h (fr t k) (T.nn hk)
   rw[T.yE hk (Int.le_refl _) (fun q=>T.up k (k+1) o! q)] at this
   exact this
theorem cJ {p:Prop} (h:p:=by first | omega | assumption | exact fun q hq=>by have u_:=qQ aP.toNat o! q hq;omega | exact vG aP.toNat o! | exact fun q hq=>by have u_:=qQ aP.toNat o! q hq;exact (fG.2.2.2.2 _ o!).le o! | (have t_:=tk_ o!;unfold rp at t_;omega)):p:=h
theorem uY {p:Prop} (h:p:=by first | omega | exact fun r hr=>(fG.2.2.2.2 r hr).le o! | exact ⟨fun r hr=>(G8 (by assumption) fG.2.2.2.2 o! r hr).le o!,by omega,by omega,by omega,G8 (by assumption) fG.2.2.2.2 o!⟩):p:=h
theorem Ax {p:Prop} (h:p:=by first | assumption | exact ij ch o!):p:=h
def nR:Code:=(Tryz.f23.body).getD .skip
theorem yu:Tryz.f23.body=some nR:=by kernel_rfl
def PL:Code:=(bw nR).getD 0 .skip
def PM:Code:=(bw nR).getD 1 .skip
def PN:Code:=(bw nR).getD 2 .skip
def PO:Code:=(bw nR).getD 3 .skip
def eT (au:List Int) (j:cx):Nat→Nat→Option (Bool)
 | 0,_=>none
 | dq+1,i0=>(bif (!(dZ (au.g i0))) then some false else (bif (decide (100000<(cW j au ((i0:Nat):Int)))) then some false else eT au j dq (i0+1)))
theorem Cf {d:Nat} {h:aC} (aN:AV) (au:List Int) (j:cx) (bk:Nat) (bx:b8 h .i64 3 aN au) (cZ:aW h j.aw j.ab) (fj:aW h j.ao j.af) (g5:aR.ok h j) (hF:∀i,i<j.ab.length→∀q,q<(j.ab.g i).aB.length→0≤(j.ab.g i).aB.g q∧(j.ab.g i).aB.g q<(j.ab.length:Int)) (je:∀r,r<j.af.length→(j.af.g r).off.length≤16∧∀q,q<(j.af.g r).off.length→0≤((j.af.g r).off.g q).bq∧((j.af.g r).off.g q).ba≤100000) (mI:∀i,i<j.ab.length→∀q,q<(j.ab.g i).aA.length→0≤((j.ab.g i).aA.g q).ah∧((j.ab.g i).aA.g q).ah<(j.af.length:Int)) (nq:∀i,i<j.ab.length→∀a,a<(j.ab.g i).aA.length→∀b,a<b→b<(j.ab.g i).aA.length→((j.ab.g i).aA.g a).ah≠((j.ab.g i).aA.g b).ah) (pF:∀i,i<j.ab.length→0≤(j.ab.g i).takes∧(j.ab.g i).takes≤100000) (pY:au.length=j.ab.length) (z6:j.ab.length≤64) (C6:j.af.length≤16) (Ez:0<j.af.length):∀(k_ i_:Nat) (_:i_+k_=au.length) (x:Nat→AV) (hh:aC) (aI:Tidy hh) (aE:Has h hh) (br:hh.get bk=some (aM.cells [j.aw,j.ao] 25 false)),aF (cN (d+3)) PL ⟨((x 0)::aN::(Pt bk)::rx x 3 10 (aN::(Zn au.length)::(Zn i_)::rx x 16 63 [])),hh,[],.no⟩ (.exit 0) hh (fun y=>((y 0)::aN::(Pt bk)::rx y 3 10 (aN::(Zn au.length)::rx y 15 64 []))) (fun r y=>((y 0)::aN::(Pt bk)::(y 3)::(AV.bool r)::rx y 5 8 (aN::(Zn au.length)::rx y 15 64 []))) (eT au j k_ i_)
 | 0,i0,fX,x,hh,aI,aE,br=>by
   have q1:(decide (((i0:Nat):Int)<((au.length:Nat):Int)))=false:=d!
   exact aF.out rfl (pk (d+3) _ _ hh _ hh (VV (bL 3 false false .i64 ((i0:Nat):Int) ((au.length:Nat):Int))<|BB q1<|ZZ) k!) (bE.refl aI) k!
 | dq+1,i0,fX,x,hh,aI,aE,br=>by
   have q1:(decide (((i0:Nat):Int)<((au.length:Nat):Int)))=true:=d!
   obtain ⟨p3,q4,cC,_⟩:=(bx.has aE).elem (i:=i0) o!
   have iW:bO env (some (.slice 3)) (some aN) (some (Zn i0))=some (AV.ptr p3 q4):=cC
   have jY:bh env hh 3 (AV.ptr p3 q4)=some (Zi (au.g i0)):=(bx.has aE).load o! cC
   have k6:=qV (d:=d+1) (au.g i0) aI
   have dJ:=fun {al ps} (k:Pk al _ ps)=>(VV (bL 3 false false .i64 ((i0:Nat):Int) ((au.length:Nat):Int))<|BC q1<|VV iW<|MM jY<|CN 3<|EE k6<|CN 2<|k:Pk _ [] ps)
   rcases Bool.eq_false_or_eq_true (!(dZ (au.g i0))) with f1 | f1
   · exact aF.ret false (by simp only[eT,f1,aj,ai]) (pk (d+3) _ _ hh _ hh (dJ<|BB f1<|BB f1<|BB f1<|BB f1<|BV f1 (yA true f1)<|TT<|CC<|ZZ) k!) (bE.refl aI) k!
   · have k8:=qn (d:=d+2) j au ((i0:Nat):Int) (aR.mono aE g5) (bx.has aE) cJ cJ cJ aI
     have hX:=fun {al ps} (k:Pk al _ ps)=>(dJ<|BM f1 (aO 25 0 (AV.agg [j.aw,j.ao]) br k!)<|BC f1<|BC f1<|BB f1<|EE k8<|BV f1 (dw 3 false true .i64 (cW j au ((i0:Nat):Int)) 100000)<|VV (cf (a:=some (AV.bool true)) (b:=some (AV.bool (decide (100000<(cW j au ((i0:Nat):Int)))))) f1)<|k:Pk _ [] ps)
     rcases Bool.eq_false_or_eq_true (decide (100000<(cW j au ((i0:Nat):Int)))) with f2 | f2
     · exact aF.ret false (by simp only[eT,f1,f2,aj,ai]) (pk (d+3) _ _ hh _ hh (hX<|BC f2<|ZZ) k!) (bE.refl aI) k!
     · have u10:=fi 3 false true i0 1 o!
       exact aF.round (by simp only[eT,f1,f2,aj,ai]) (pk (d+3) _ _ hh _ hh (hX<|BV f2 u10<|CC<|ZZ) k!) (bE.refl aI) _ k! (fun x=>Cf aN au j bk bx cZ fj g5 hF je mI nq pF pY z6 C6 Ez dq (i0+1) o! x hh aI aE br)
theorem zl {j:cx} {au:List Int} (tk:∀i,i<j.ab.length→0≤(j.ab.g i).takes∧(j.ab.g i).takes≤100000) (hl:au.length=j.ab.length):∀(k i:Nat),i+k=au.length→eT au j k i=none→∀q,i≤q→q<au.length→0≤au.g q∧au.g q+(j.ab.g q).takes≤100000
 | 0,i,e,_,q,h1,h2=>by omega
 | k+1,i,e,h,q,h1,h2=>by
   rw[eT] at h
   cases a:dZ (au.g i) with
   | false=>rw[a] at h;cases h
   | true=>
     rw[a] at h
     have ta:0≤au.g i∧au.g i≤100000:=by
      unfold dZ ib at a
      by_cases z:0≤au.g i
      · rw[decide_eq_true z,aj] at a;exact ⟨z,of_decide_eq_true a⟩
      · rw[decide_eq_false z] at a;cases a
     have tt:=tk i o!
     by_cases b:100000<cW j au ((i:Nat):Int)
     · rw[decide_eq_true b] at h;cases h
     · rw[decide_eq_false b] at h
       by_cases z:q=i
       · subst z
         unfold cW at b
         rw[Int.toNat_natCast,wrap_i64 o! o!] at b
         exact ⟨ta.1,by omega⟩
       · exact zl tk hl k (i+1) o! h q o! h2
theorem ss {j:cx} {au:List Int} (tk:∀i,i<j.ab.length→0≤(j.ab.g i).takes∧(j.ab.g i).takes≤100000) (hl:au.length=j.ab.length) (h:eT au j au.length 0=none):∀i,i<au.length→0≤au.g i∧au.g i+(j.ab.g i).takes≤100000:=fun q hq=>zl tk hl _ 0 o! h q (Nat.zero_le _) hq
def gI (j:cx) (aP:Int) (au:List Int):Nat→Nat→Option (Bool)
 | 0,_=>none
 | IU+1,i2=>(bif (decide ((au.g aP.toNat)<(cW j au ((j.ab.g aP.toNat).aB.g i2)))) then some false else gI j aP au IU (i2+1))
theorem Cg {d:Nat} {h:aC} (aN:AV) (aP:Int) (j:cx) (qh:Bool) (cF:List Bool) (ir:List Int) (kC:List Tl) (au:List Int) (kM:Nat) (n6:Nat) (BT:Nat) (Sq:Nat) (ahW:Nat) (lq:b8 h .i64 3 aN au) (qe:aW h j.aw j.ab) (BU:aW h j.ao j.af) (xz:b8 h .i64 3 (j.ab.g aP.toNat).aU (j.ab.g aP.toNat).aB) (An:aR.ok h j) (L6:aR.ok h (j.ab.g aP.toNat)) (Pc:∀i,i<j.ab.length→∀q,q<(j.ab.g i).aB.length→0≤(j.ab.g i).aB.g q∧(j.ab.g i).aB.g q<(j.ab.length:Int)) (V3:∀r,r<j.af.length→(j.af.g r).off.length≤16∧∀q,q<(j.af.g r).off.length→0≤((j.af.g r).off.g q).bq∧((j.af.g r).off.g q).ba≤100000) (V4:∀i,i<j.ab.length→∀q,q<(j.ab.g i).aA.length→0≤((j.ab.g i).aA.g q).ah∧((j.ab.g i).aA.g q).ah<(j.af.length:Int)) (V5:∀i,i<j.ab.length→∀a,a<(j.ab.g i).aA.length→∀b,a<b→b<(j.ab.g i).aA.length→((j.ab.g i).aA.g a).ah≠((j.ab.g i).aA.g b).ah) (V6:∀i,i<j.ab.length→0≤(j.ab.g i).takes∧(j.ab.g i).takes≤100000) (V7:au.length=j.ab.length) (ahX:j.ab.length≤64) (ahY:j.af.length≤16) (ahZ:0<j.af.length) (anw:0≤aP) (akJ:aP<(j.ab.length:Int)) (akK:kC.length=((aK j).1.length)):∀(k_ i_:Nat) (_:i_+k_=((j.ab.g aP.toNat).aB.length)) (x:Nat→AV) (hh:aC) (aI:Tidy hh) (aE:Has h hh) (jR:hh.get kM=some (aM.cells [j.aw,j.ao] 25 false)) (qf:hh.get n6=some (aM.cells [j.aw,j.ao,(AV.slice BT 0 j.ab.length j.ab.length false),(AV.slice Sq 0 j.ab.length j.ab.length false),(AV.slice ahW 0 (aK j).1.length (aK j).1.length qh)] 78 false)) (uJ:hh.get BT=some (aM.cells (bs cF) 4 false)) (MD:hh.get Sq=some (aM.cells (zs .i64 ir) 3 false)) (ad3:hh.get ahW=some (aM.cells (jV kC) 128 false)),aF (cN (d+3)) PN ⟨((x 0)::aN::(Pt kM)::rx x 3 4 ((Pt n6)::(Zi aP)::rx x 9 25 (j.aw::(Zn j.ab.length)::(Zi aP)::rx x 37 5 (((j.ab.g aP.toNat).aU)::(Zn (j.ab.g aP.toNat).aB.length)::(Zn i_)::rx x 45 34 [])))),hh,[],.no⟩ (.exit 4) hh (fun y=>((y 0)::aN::(Pt kM)::rx y 3 4 ((Pt n6)::(Zi aP)::rx y 9 25 (j.aw::(Zn j.ab.length)::(Zi aP)::rx y 37 5 (((j.ab.g aP.toNat).aU)::(Zn (j.ab.g aP.toNat).aB.length)::rx y 44 35 []))))) (fun r y=>((y 0)::aN::(Pt kM)::(y 3)::(AV.bool r)::(y 5)::(y 6)::(Pt n6)::(Zi aP)::rx y 9 25 (j.aw::(Zn j.ab.length)::(Zi aP)::rx y 37 5 (((j.ab.g aP.toNat).aU)::(Zn (j.ab.g aP.toNat).aB.length)::rx y 44 35 [])))) (gI j aP au k_ i_)
 | 0,i2,fX,x,hh,aI,aE,jR,qf,uJ,MD,ad3=>by
   have q1:(decide (((i2:Nat):Int)<(((j.ab.g aP.toNat).aB.length:Nat):Int)))=false:=d!
   exact aF.out rfl (pk (d+3) _ _ hh _ hh (VV (bL 3 false false .i64 ((i2:Nat):Int) (((j.ab.g aP.toNat).aB.length:Nat):Int))<|BB q1<|ZZ) k!) (bE.refl aI) k!
 | IU+1,i2,fX,x,hh,aI,aE,jR,qf,uJ,MD,ad3=>by
   have L7:=lq.small
   have L8:=qe.small
   have aaa:=BU.small
   have RX:=xz.small
   have adC:=aI _ _ jR
   have ag8:=aI _ _ qf
   have akk:=aI _ _ uJ
   have anx:=aI _ _ MD
   have aoF:=aI _ _ ad3
   have kn_:=Pc aP.toNat o! i2
   have q1:(decide (((i2:Nat):Int)<(((j.ab.g aP.toNat).aB.length:Nat):Int)))=true:=d!
   obtain ⟨p3,q4,cC,_⟩:=(xz.has aE).elem (i:=i2) o!
   have iW:bO env (some (.slice 3)) (some (j.ab.g aP.toNat).aU) (some (Zn i2))=some (AV.ptr p3 q4):=cC
   have jY:bh env hh 3 (AV.ptr p3 q4)=some (Zi ((j.ab.g aP.toNat).aB.g i2)):=(xz.has aE).load o! cC
   obtain ⟨p7,q8,xE,_⟩:=(lq.has aE).elem (i:=aP.toNat) o!
   have Lr:bO env (some (.slice 3)) (some aN) (some (Zi aP))=some (AV.ptr p7 q8):=by rw[show (aP:Int)=((aP.toNat:Nat):Int) by omega];exact xE
   have I3:bh env hh 3 (AV.ptr p7 q8)=some (Zi (au.g aP.toNat)):=(lq.has aE).load o! xE
   have YU:=qn (d:=d+2) j au ((j.ab.g aP.toNat).aB.g i2) (aR.mono aE An) (lq.has aE) cJ cJ cJ aI
   have c11:AV.same 20 (AV.agg [j.aw,j.ao]) (AV.agg [j.aw,j.ao])=true:=hT 18 (rH (qe.has aE).same (rH (BU.has aE).same P6))
   have ow:=fun {al ps} (k:Pk al _ ps)=>(VV (bL 3 false false .i64 ((i2:Nat):Int) (((j.ab.g aP.toNat).aB.length:Nat):Int))<|BV q1 iW<|MM jY<|CN 3<|VV Lr<|MM I3<|MM (aO 25 0 (AV.agg [j.aw,j.ao]) jR k!)<|CN 2<|EE YU<|VV (bL 3 false false .i64 (au.g aP.toNat) (cW j au ((j.ab.g aP.toNat).aB.g i2)))<|HH I3<|HH (show AV.same 20 (Zi (au.g aP.toNat)) (Zi (au.g aP.toNat))=true from aS 19 _ _)<|HH I3<|HH (show AV.same 20 (Zi (au.g aP.toNat)) (Zi (au.g aP.toNat))=true from aS 19 _ _)<|HH (aO 25 0 (AV.agg [j.aw,j.ao]) jR k!)<|HH c11<|k:Pk _ [] ps)
   rcases Bool.eq_false_or_eq_true (decide ((au.g aP.toNat)<(cW j au ((j.ab.g aP.toNat).aB.g i2)))) with f1 | f1
   · have fP:=of_decide_eq_true f1
     exact aF.ret false (by simp only[gI,f1,aj,ai]) (pk (d+3) _ _ hh _ hh (ow<|BC f1<|ZZ) k!) (bE.refl aI) k!
   · have fP:=of_decide_eq_false f1
     have Z':=fi 3 false true i2 1 o!
     exact aF.round (by simp only[gI,f1,aj,ai]) (pk (d+3) _ _ hh _ hh (ow<|BV f1 Z'<|CC<|ZZ) k!) (bE.refl aI) _ k! (fun x=>Cg aN aP j qh cF ir kC au kM n6 BT Sq ahW lq qe BU xz An L6 Pc V3 V4 V5 V6 V7 ahX ahY ahZ anw akJ akK IU (i2+1) o! x hh aI aE jR qf uJ MD ad3)
def iN (j:cx) (au:List Int):Nat→Int→List Bool→List Int→List Tl→(List Bool×List Int×List Tl)⊕(Bool)
 | 0,aP,cF,ir,kC=>Sum.inl (cF,ir,kC)
 | o8+1,aP,cF,ir,kC=>(bif (decide (aP<((j.ab.length:Nat):Int))) then (match (gI j aP au (j.ab.g aP.toNat).aB.length 0) with | none=>iN j au o8 (aP+1) (fR j cF ir kC aP (au.g aP.toNat)).1 (fR j cF ir kC aP (au.g aP.toNat)).2.1 (fR j cF ir kC aP (au.g aP.toNat)).2.2 | some Sr=>Sum.inr Sr) else Sum.inl (cF,ir,kC))
theorem Ch {d:Nat} {h:aC} (aN:AV) (j:cx) (qh:Bool) (au:List Int) (cU:Nat) (dt:Nat) (iJ:Nat) (iT:Nat) (ka:Nat) (eM:b8 h .i64 3 aN au) (eR:aW h j.aw j.ab) (ny:aW h j.ao j.af) (mZ:aR.ok h j) (pH:∀i,i<j.ab.length→∀q,q<(j.ab.g i).aB.length→0≤(j.ab.g i).aB.g q∧(j.ab.g i).aB.g q<(j.ab.length:Int)) (qP:∀r,r<j.af.length→(j.af.g r).off.length≤16∧∀q,q<(j.af.g r).off.length→0≤((j.af.g r).off.g q).bq∧((j.af.g r).off.g q).ba≤100000) (qQ:∀i,i<j.ab.length→∀q,q<(j.ab.g i).aA.length→0≤((j.ab.g i).aA.g q).ah∧((j.ab.g i).aA.g q).ah<(j.af.length:Int)) (vG:∀i,i<j.ab.length→∀a,a<(j.ab.g i).aA.length→∀b,a<b→b<(j.ab.g i).aA.length→((j.ab.g i).aA.g a).ah≠((j.ab.g i).aA.g b).ah) (EK:∀i,i<j.ab.length→0≤(j.ab.g i).takes∧(j.ab.g i).takes≤100000) (Hq:au.length=j.ab.length) (Wj:j.ab.length≤64) (R':j.af.length≤16) (adJ:0<j.af.length) (aaC:∀i,i<au.length→0≤au.g i∧au.g i+(j.ab.g i).takes≤100000) (ch:Tidy h) (Lu:h.nx≤cU) (Q9:h.nx≤dt) (ah0:h.nx≤iJ) (ah1:h.nx≤iT) (anz:h.nx≤ka) (zT:dt≠cU) (Ss:iJ≠cU) (Su:iJ≠dt) (Sv:iT≠cU) (Sw:iT≠dt) (Sx:iT≠iJ) (ah2:ka≠cU) (ah3:ka≠dt) (ah4:ka≠iJ) (ah5:ka≠iT):∀(k_:Nat) (aP:Int) (cF:List Bool) (ir:List Int) (kC:List Tl) (_:((j.ab.length:Nat):Int) - aP≤(k_:Int)) (_:((∀ri,ri<(kC).length→rp 161 ((kC).g ri))∧(0≤aP∧aP≤(j.ab.length:Int)∧(kC).length=j.af.length∧∀ri,ri<(kC).length→rp (33+2*aP) ((kC).g ri)))) (x:Nat→AV) (hh:aC) (aI:Tidy hh) (aE:Has h hh) (gC:h.nx≤hh.nx) (rI:cF.length=j.ab.length) (PQ:ir.length=j.ab.length) (afl:kC.length=((aK j).1.length)) (cO:hh.get cU=some (aM.cells [j.aw,j.ao] 25 false)) (dA:hh.get dt=some (aM.cells [j.aw,j.ao,(AV.slice iJ 0 j.ab.length j.ab.length false),(AV.slice iT 0 j.ab.length j.ab.length false),(AV.slice ka 0 (aK j).1.length (aK j).1.length qh)] 78 false)) (sj:hh.get iJ=some (aM.cells (bs cF) 4 false)) (sm:hh.get iT=some (aM.cells (zs .i64 ir) 3 false)) (EN:hh.get ka=some (aM.cells (jV kC) 128 false)),bS (σ:=List Bool×List Int×List Tl) (ρ:=Bool) (cN (d+3)) PM ⟨((x 0)::aN::(Pt cU)::rx x 3 4 ((Pt dt)::rx x 8 26 (j.aw::(Zn j.ab.length)::(Zi aP)::rx x 37 42 []))),hh,[],.no⟩ (.exit 2) hh (fun r z y=>((y 0)::aN::(Pt cU)::rx y 3 4 ((Pt dt)::rx y 8 26 (j.aw::(Zn j.ab.length)::rx y 36 43 [])))) (fun r z y=>((y 0)::aN::(Pt cU)::(y 3)::(AV.bool r)::(y 5)::(y 6)::(Pt dt)::rx y 8 26 (j.aw::(Zn j.ab.length)::rx y 36 43 []))) (fun r z hk=>Has h hk∧hk.get cU=some (aM.cells [j.aw,j.ao] 25 false)∧hk.get dt=some (aM.cells [j.aw,j.ao,(AV.slice iJ 0 j.ab.length j.ab.length false),(AV.slice iT 0 j.ab.length j.ab.length false),(AV.slice ka 0 (aK j).1.length (aK j).1.length qh)] 78 false)∧hk.get iJ=some (aM.cells (bs r.1) 4 false)∧hk.get iT=some (aM.cells (zs .i64 r.2.1) 3 false)∧hk.get ka=some (aM.cells (jV r.2.2) 128 false)∧r.1.length=j.ab.length∧r.2.1.length=j.ab.length∧r.2.2.length=((aK j).1.length)∧(∀ri,ri<(r.2.2).length→rp 161 ((r.2.2).g ri))) (fun r z hk=>Has h hk) (iN j au k_ aP cF ir kC)
 | 0,aP,cF,ir,kC,fX,fG,x,hh,aI,aE,gC,rI,PQ,afl,cO,dA,sj,sm,EN=>by
   have q1:(decide (aP<((j.ab.length:Nat):Int)))=false:=d!
   exact bS.out (cF,ir,kC) AV.undef rfl (pk (d+3) _ _ hh _ hh (VV (bL 3 false false .i64 aP ((j.ab.length:Nat):Int))<|BB q1<|ZZ) k!) aI o! ⟨aE,cO,dA,sj,sm,EN,l!,l!,l!,(show (∀ri,ri<(kC).length→rp 161 ((kC).g ri)) from uY)⟩ k!
 | o8+1,aP,cF,ir,kC,fX,fG,x,hh,aI,aE,gC,rI,PQ,afl,cO,dA,sj,sm,EN=>by
   have qR:=eM.small
   have r7:=eR.small
   have L_:=ny.small
   have Iz:=aI _ _ cO
   have Q_:=aI _ _ dA
   have akv:=aI _ _ sj
   have akw:=aI _ _ sm
   have am3:=aI _ _ EN
   have ks_:=aaC aP.toNat
   have kt_:=EK aP.toNat
   have y9:=fun {al ps} (k:Pk al _ ps)=>(VV (bL 3 false false .i64 aP ((j.ab.length:Nat):Int))<|k:Pk _ [] ps)
   rcases Bool.eq_false_or_eq_true (decide (aP<((j.ab.length:Nat):Int))) with f0 | f0
   · have jf:=of_decide_eq_true f0
     obtain ⟨p3,q4,cC⟩:=eR.elem (i:=aP.toNat) o!
     have iW:bO env (some (.slice 40)) (some j.aw) (some (Zi aP))=some (AV.ptr p3 q4):=by rw[show (aP:Int)=((aP.toNat:Nat):Int) by omega];exact cC
     have jY:bh env hh 40 (AV.ptr p3 q4)=some (AV.agg [(AV.str (j.ab.g aP.toNat).name),(Zi (j.ab.g aP.toNat).takes),(j.ab.g aP.toNat).aU,(j.ab.g aP.toNat).a_]):=(eR.has aE).load o! cC
     obtain ⟨h6,mK,ji,zU,mL,bU⟩:=jE aI (aM.cells [(AV.str []),(Zi 0),AV.aG,AV.aG] 40 false)
     have hZ:Has h h6:=aE.trans bU
     have Lx:AV.scalar (j.ab.g aP.toNat).aU=true:=((eR.ok (i:=aP.toNat) o!).2.1).scalar
     have Rl:AV.scalar (j.ab.g aP.toNat).a_=true:=((eR.ok (i:=aP.toNat) o!).2.2).scalar
     obtain ⟨h7,l7,eP,vH,fH,bp⟩:=n5 (t:=40) (n:=4) (i:=hh.nx) (L:=[(AV.str (j.ab.g aP.toNat).name),(Zi (j.ab.g aP.toNat).takes),(j.ab.g aP.toNat).aU,(j.ab.g aP.toNat).a_]) ji mL k! rfl rfl (by simp only[AV.cells,List.all_cons,List.all_nil,Bool.and_true,Bool.and_self,gr,eO,gu,gv,dG,jK,jL,jM,jN,jO,gz,Lx,Rl])
     have dm:Has h h7:=Has.dg hZ bp ch o!
     have tg:cb (some (.slice 3)) (some (j.ab.g aP.toNat).aU)=some (Zn (j.ab.g aP.toNat).aB.length):=((eR.ok (i:=aP.toNat) o!).2.1).len
     have AL:=fun {al ps} (k:Pk al _ ps)=>(y9<|BC f0<|VV iW<|MM jY<|NN mK (fun i=>(Pt i))<|CC<|SS l7<|CC<|MM (aO 26 2 (j.ab.g aP.toNat).aU fH k!)<|VV tg<|CC<|k:Pk _ [] ps)
     have aaO:=Cg (d:=d) (h:=h) aN aP j qh cF ir kC au cU dt iJ iT ka eM eR ny (eR.ok (i:=aP.toNat) o!).2.1 mZ (eR.ok (i:=aP.toNat) o!) (by assumption) (by assumption) (by assumption) (by assumption) (by assumption) o! o! o! o! o! o! o! (j.ab.g aP.toNat).aB.length 0 o! (fun k_=>(((x 0)::aN::(Pt cU)::rx x 3 4 ((Pt dt)::(Zi aP)::(Pt hh.nx)::rx x 10 24 (j.aw::(Zn j.ab.length)::(Zi aP)::(AV.bool (decide (aP<((j.ab.length:Nat):Int))))::(Zi aP)::(AV.ptr p3 q4)::(AV.agg [(AV.str (j.ab.g aP.toNat).name),(Zi (j.ab.g aP.toNat).takes),(j.ab.g aP.toNat).aU,(j.ab.g aP.toNat).a_])::(AV.ptr hh.nx 2)::((j.ab.g aP.toNat).aU)::(Zn (j.ab.g aP.toNat).aB.length)::(Zi 0)::rx x 45 34 []))):List AV).getD k_ AV.undef) h7 eP dm (bp _ _ o! (bU _ _ cO)) (bp _ _ o! (bU _ _ dA)) (bp _ _ o! (bU _ _ sj)) (bp _ _ o! (bU _ _ sm)) (bp _ _ o! (bU _ _ EN))
     cases qj:gI j aP au (j.ab.g aP.toNat).aB.length 0 with
     | none=>
       obtain ⟨iK,kV,nM,ct⟩:=aF.n qj aaO
       have jk:=ct.y
       have GX:h7.nx≤kV.nx:=ct.n
       have fJ:Has h kV:=dm.trans ct.a
       obtain ⟨Z_,V2,xr,_⟩:=eM.elem (i:=aP.toNat) o!
       have RN:bO env (some (.slice 3)) (some aN) (some (Zi aP))=some (AV.ptr Z_ V2):=by rw[show (aP:Int)=((aP.toNat:Nat):Int) by omega];exact xr
       have EM:bh env kV 3 (AV.ptr Z_ V2)=some (Zi (au.g aP.toNat)):=(eM.has fJ).load o! xr
       obtain ⟨OD,GQ,TO,E6,Br,ik⟩:=dz jk (ct.a _ _ (bp _ _ o! (bU _ _ sj)))
       have Sy:Has h OD:=bG fJ Ax ik
       obtain ⟨I_,Aw,MA,uW,uX,im⟩:=dz GQ ((ik _ o!).trans (ct.a _ _ (bp _ _ o! (bU _ _ sm))))
       have Du:I_.get iJ=none:=(im _ o!).trans E6
       have xP:Has h I_:=bG Sy Ax im
       obtain ⟨Dm,Ar,Mp,uQ,uR,jr⟩:=dz Aw ((im _ o!).trans ((ik _ o!).trans (ct.a _ _ (bp _ _ o! (bU _ _ EN)))))
       have tz:Dm.get iJ=none:=(jr _ o!).trans Du
       have Ww:Dm.get iT=none:=(jr _ o!).trans uW
       have sq:Has h Dm:=bG xP Ax jr
       obtain ⟨W0,abf,JM,akI,Dt,UF,ad0,MB,ad1,ad4,alu⟩:=TU (d:=d) (h:=Dm) (pqN:=j.ab.length) (sqN:=j.ab.length) (tqN:=((aK j).1.length)) (tqF:=qh) j cF ir kC aP (au.g aP.toNat) (aR.mono sq mZ) (ct.a _ _ (bp _ _ o! (bU _ _ sj))) l! tz (ct.a _ _ (bp _ _ o! (bU _ _ sm))) l! Ww (ct.a _ _ (bp _ _ o! (bU _ _ EN))) l! uQ cJ cJ cJ cJ cJ cJ cJ cJ cJ cJ o! o! o! Ar jk (uR.trans (uX.trans Br)) o!
       have anA:=OQ j cF ir kC aP (au.g aP.toNat) cJ cJ cJ cJ
       have JO:Has h W0:=(sq.trans Dt)
       have c21:AV.same 20 (AV.agg [j.aw,j.ao,(AV.slice iJ 0 j.ab.length j.ab.length false),(AV.slice iT 0 j.ab.length j.ab.length false),(AV.slice ka 0 (aK j).1.length (aK j).1.length qh)]) (AV.agg [j.aw,j.ao,(AV.slice iJ 0 j.ab.length j.ab.length false),(AV.slice iT 0 j.ab.length j.ab.length false),(AV.slice ka 0 (aK j).1.length (aK j).1.length qh)])=true:=hT 18 (rH eR.same (rH ny.same (rH (fun n=>by simp [AV.same]) (rH (fun n=>by simp [AV.same]) (rH (fun n=>by simp [AV.same]) P6)))))
       have w22:IntKind.i64.wrap (aP+1)=aP+1:=wrap_i64 o! o!
       exact bS.round (by simp only[iN,f0,qj,aj,ai]) (pk (d+3) _ _ hh _ W0 (AL<|LL nM<|MM (aO 78 0 (AV.agg [j.aw,j.ao,(AV.slice iJ 0 j.ab.length j.ab.length false),(AV.slice iT 0 j.ab.length j.ab.length false),(AV.slice ka 0 (aK j).1.length (aK j).1.length qh)]) (ct.a _ _ (bp _ _ o! (bU _ _ dA))) k!)<|CN 3<|VV RN<|MM EM<|EE abf<|HH (aO 78 0 (AV.agg [j.aw,j.ao,(AV.slice iJ 0 j.ab.length j.ab.length false),(AV.slice iT 0 j.ab.length j.ab.length false),(AV.slice ka 0 (aK j).1.length (aK j).1.length qh)]) (ct.a _ _ (bp _ _ o! (bU _ _ dA))) k!)<|HH c21<|HH EM<|HH (show AV.same 20 (Zi (au.g aP.toNat)) (Zi (au.g aP.toNat))=true from aS 19 _ _)<|VV (qG 3 false true w22)<|CC<|ZZ) k!) o! _ k! (fun x=>Ch aN j qh au cU dt iJ iT ka eM eR ny mZ pH qP qQ vG EK Hq Wj R' adJ aaC ch Lu Q9 ah0 ah1 anz zT Ss Su Sv Sw Sx ah2 ah3 ah4 ah5 o8 (aP+1) (fR j cF ir kC aP (au.g aP.toNat)).1 (fR j cF ir kC aP (au.g aP.toNat)).2.1 (fR j cF ir kC aP (au.g aP.toNat)).2.2 uY (show ((∀ri,ri<((fR j cF ir kC aP (au.g aP.toNat)).2.2).length→rp 161 ((fR j cF ir kC aP (au.g aP.toNat)).2.2.g ri))∧(0≤(aP+1)∧(aP+1)≤(j.ab.length:Int)∧((fR j cF ir kC aP (au.g aP.toNat)).2.2).length=j.af.length∧∀ri,ri<((fR j cF ir kC aP (au.g aP.toNat)).2.2).length→rp (33+2*(aP+1)) ((fR j cF ir kC aP (au.g aP.toNat)).2.2.g ri))) from uY) x W0 JM JO o! l! l! l! (Dt _ _ ((jr _ o!).trans ((im _ o!).trans ((ik _ o!).trans (ct.a _ _ (bp _ _ o! (bU _ _ cO))))))) (Dt _ _ ((jr _ o!).trans ((im _ o!).trans ((ik _ o!).trans (ct.a _ _ (bp _ _ o! (bU _ _ dA))))))) UF MB ad4)
     | some Sr=>
       obtain ⟨iK,kV,nM,ct⟩:=aF.r qj aaO
       have jk:=ct.y
       have GX:h7.nx≤kV.nx:=ct.n
       have fJ:Has h kV:=dm.trans ct.a
       exact bS.ret Sr AV.undef (by simp only[iN,f0,qj,aj,ai]) (pk (d+3) _ _ hh _ kV (AL<|LL nM<|ZZ) k!) jk o! fJ k!
   · exact bS.out (cF,ir,kC) AV.undef (by simp only[iN,f0,aj,ai]) (pk (d+3) _ _ hh _ hh (y9<|BB f0<|ZZ) k!) aI o! ⟨aE,cO,dA,sj,sm,EN,l!,l!,l!,(show (∀ri,ri<(kC).length→rp 161 ((kC).g ri)) from uY)⟩ k!
def jz (j:cx) (su:List Bool×List Int×List Tl):Nat→Nat→Option (Bool)
 | 0,_=>none
 | IV+1,i3=>(bif (!(kB (fit (su.2.2.g i3).l))) then some false else jz j su IV (i3+1))
theorem Ci {d:Nat} {h:aC} (j:cx) (qh:Bool) (su:List Bool×List Int×List Tl) (au:List Int) (pr:Nat) (vL:Nat) (vM:Nat) (Sz:Nat) (pt:aW h j.aw j.ab) (xA:aW h j.ao j.af) (Hu:aR.ok h j) (V_:∀i,i<j.ab.length→∀q,q<(j.ab.g i).aB.length→0≤(j.ab.g i).aB.g q∧(j.ab.g i).aB.g q<(j.ab.length:Int)) (V':∀r,r<j.af.length→(j.af.g r).off.length≤16∧∀q,q<(j.af.g r).off.length→0≤((j.af.g r).off.g q).bq∧((j.af.g r).off.g q).ba≤100000) (Wa:∀i,i<j.ab.length→∀q,q<(j.ab.g i).aA.length→0≤((j.ab.g i).aA.g q).ah∧((j.ab.g i).aA.g q).ah<(j.af.length:Int)) (Wb:∀i,i<j.ab.length→∀a,a<(j.ab.g i).aA.length→∀b,a<b→b<(j.ab.g i).aA.length→((j.ab.g i).aA.g a).ah≠((j.ab.g i).aA.g b).ah) (Wc:∀i,i<j.ab.length→0≤(j.ab.g i).takes∧(j.ab.g i).takes≤100000) (Wd:au.length=j.ab.length) (anB:j.ab.length≤64) (anC:j.af.length≤16) (anD:0<j.af.length) (anE:su.2.2.length=((aK j).1.length)) (afm:∀r,r<su.2.2.length→rp 161 (su.2.2.g r)) (akL:su.2.2.length≤1000):∀(k_ i_:Nat) (_:i_+k_=((aK j).1.length)) (x:Nat→AV) (hh:aC) (aI:Tidy hh) (aE:Has h hh) (mM:hh.get pr=some (aM.cells [j.aw,j.ao,(AV.slice vL 0 j.ab.length j.ab.length false),(AV.slice vM 0 j.ab.length j.ab.length false),(AV.slice Sz 0 (aK j).1.length (aK j).1.length qh)] 78 false)) (qg:hh.get vL=some (aM.cells (bs su.1) 4 false)) (rz:hh.get vM=some (aM.cells (zs .i64 su.2.1) 3 false)) (abh:hh.get Sz=some (aM.cells (jV su.2.2) 128 false)),aF (cN (d+3)) PO ⟨(rx x 0 7 ((Pt pr)::rx x 8 60 ((Zn (aK j).1.length)::(Zn i_)::rx x 70 9 []))),hh,[],.no⟩ (.exit 6) hh (fun y=>(rx y 0 7 ((Pt pr)::rx y 8 60 ((Zn (aK j).1.length)::rx y 69 10 [])))) (fun r y=>(rx y 0 4 ((AV.bool r)::(y 5)::(y 6)::(Pt pr)::rx y 8 60 ((Zn (aK j).1.length)::rx y 69 10 [])))) (jz j su k_ i_)
 | 0,i3,fX,x,hh,aI,aE,mM,qg,rz,abh=>by
   have q1:(decide (((i3:Nat):Int)<((((aK j).1.length):Nat):Int)))=false:=d!
   exact aF.out rfl (pk (d+3) _ _ hh _ hh (VV (bL 3 false false .i64 ((i3:Nat):Int) ((((aK j).1.length):Nat):Int))<|BB q1<|ZZ) k!) (bE.refl aI) k!
 | IV+1,i3,fX,x,hh,aI,aE,mM,qg,rz,abh=>by
   have RY:=pt.small
   have RZ:=xA.small
   have aha:=aI _ _ mM
   have akl:=aI _ _ qg
   have akm:=aI _ _ rz
   have aoG:=aI _ _ abh
   have tk_:=afm i3
   have q1:(decide (((i3:Nat):Int)<((((aK j).1.length):Nat):Int)))=true:=d!
   have iW:bO env (some (.slice 128)) (some (AV.slice Sz 0 (aK j).1.length (aK j).1.length qh)) (some (Zn i3))=some (AV.ptr Sz (0+i3*324)):=Bh (z:=324) (k:=i3) k! o! o!
   have k3:=Sp (d:=d+2) (fit (su.2.2.g i3).l) Sz (0+i3*324) (Ls abh o!) (by rw[(Bo o!).2];omega) (uv _) cJ cJ aI
   have R0:=fun {al ps} (k:Pk al _ ps)=>(VV (bL 3 false false .i64 ((i3:Nat):Int) ((((aK j).1.length):Nat):Int))<|BB q1<|CN 3<|MM (aO 76 4 (AV.slice Sz 0 (aK j).1.length (aK j).1.length qh) mM k!)<|CC<|VV iW<|EE k3<|CC<|k:Pk _ [] ps)
   rcases Bool.eq_false_or_eq_true (!(kB (fit (su.2.2.g i3).l))) with f1 | f1
   · exact aF.ret false (by simp only[jz,f1,aj,ai]) (pk (d+3) _ _ hh _ hh (R0<|BC f1<|ZZ) k!) (bE.refl aI) k!
   · have u5:=fi 3 false true i3 1 o!
     exact aF.round (by simp only[jz,f1,aj,ai]) (pk (d+3) _ _ hh _ hh (R0<|BV f1 u5<|CC<|ZZ) k!) (bE.refl aI) _ k! (fun x=>Ci j qh su au pr vL vM Sz pt xA Hu V_ V' Wa Wb Wc Wd anB anC anD anE afm akL IV (i3+1) o! x hh aI aE mM qg rz abh)
def mD (j:cx) (au:List Int):Bool:=(match (eT au j au.length 0) with | none=>(match (iN j au (((j.ab.length:Nat):Int) - 0).toNat 0 (aK j).2.1 (aK j).2.2 (aK j).1) with | Sum.inl su=>(match (jz j su (aK j).1.length 0) with | none=>true | some ah6=>ah6) | Sum.inr SA=>SA) | some rr3=>rr3)
theorem Wx {d:Nat} {h:aC} {aN:AV} (j:cx) (au:List Int) (bV:aR.ok h j) (cL:b8 h .i64 3 aN au) (l6:∀i,i<j.ab.length→∀q,q<(j.ab.g i).aB.length→0≤(j.ab.g i).aB.g q∧(j.ab.g i).aB.g q<(j.ab.length:Int)) (om:∀r,r<j.af.length→(j.af.g r).off.length≤16∧∀q,q<(j.af.g r).off.length→0≤((j.af.g r).off.g q).bq∧((j.af.g r).off.g q).ba≤100000) (yD:∀i,i<j.ab.length→∀q,q<(j.ab.g i).aA.length→0≤((j.ab.g i).aA.g q).ah∧((j.ab.g i).aA.g q).ah<(j.af.length:Int)) (zR:∀i,i<j.ab.length→∀a,a<(j.ab.g i).aA.length→∀b,a<b→b<(j.ab.g i).aA.length→((j.ab.g i).aA.g a).ah≠((j.ab.g i).aA.g b).ah) (Ex:∀i,i<j.ab.length→0≤(j.ab.g i).takes∧(j.ab.g i).takes≤100000) (Ri:au.length=j.ab.length) (pre6:j.ab.length≤64) (Rj:j.af.length≤16) (Zt:0<j.af.length) (ch:Tidy h):cN (d+4) (.fn 23) [(AV.agg [j.aw,j.ao]),aN] h= .ret (AV.bool (mD j au)) h:=by
 have Ay:=cL.small
 have kb:=bV.1.small
 have kf:=bV.2.small
 obtain ⟨h1,di,cS,jU,bm,bP⟩:=jE ch (aM.cells [j.aw,j.ao] 25 false)
 have bA:Has h h1:=bP
 have EC:cb (some (.slice 3)) (some aN)=some (Zn au.length):=cL.len
 have Pd:=fun {al ps} (k:Pk al _ ps)=>(NN di (fun i=>(Pt i))<|CN 2<|VV EC<|CC<|k:Pk _ [] ps)
 have Pz:=Cf (d:=d) (h:=h) aN au j h.nx cL bV.1 bV.2 bV (by assumption) (by assumption) (by assumption) (by assumption) (by assumption) o! o! o! o! au.length 0 o! (fun k_=>(((AV.agg [j.aw,j.ao])::aN::(Pt h.nx)::AV.undef::(AV.bool false)::AV.undef::AV.undef::AV.undef::AV.undef::AV.undef::AV.undef::AV.undef::AV.undef::aN::(Zn au.length)::(Zi 0)::jX 63):List AV).getD k_ AV.undef) h1 cS bA bm
 cases ly:eT au j au.length 0 with
 | none=>
   obtain ⟨MV,h4,kK,f_⟩:=aF.n ly Pz
   have lI:=f_.y
   have ZP:h1.nx≤h4.nx:=f_.n
   have jC:Has h h4:=bA.trans f_.a
   obtain ⟨pb5,sb6,zb7,gb8,m4,UH,rP,HY,HZ,SB,ah7,ah8,ah9,aia,aib,aic,aid,aie⟩:=p_ (d:=d) j (aR.mono jC bV) cJ cJ cJ lI
   have mj:=rP.y
   have ZO:h4.nx≤m4.nx:=rP.n
   have aif:=oK j (by assumption)
   obtain ⟨qb9,qh,rfl,anF,abi⟩:=nv.block SB o!
   have wN:Has h m4:=jC.trans rP.a
   have H0:Has h4 m4:=rP.a
   have akM:=mj _ _ HY
   have akN:=mj _ _ HZ
   have aoh:=mj _ _ abi
   obtain ⟨kV,J7,jk,aad,BW,eB⟩:=jE mj (aM.cells [AV.aG,AV.aG,AV.aG,AV.aG,AV.aG] 78 false)
   have fJ:Has h kV:=wN.trans eB
   have H2:Has h4 kV:=H0.trans eB
   have Dv:Has m4 kV:=eB
   have aae:AV.scalar j.aw=true:=bV.1.scalar
   have aih:AV.scalar j.ao=true:=bV.2.scalar
   obtain ⟨lR,vl,iQ,OJ,ra,c9⟩:=n5 (t:=78) (n:=5) (i:=m4.nx) (L:=[j.aw,j.ao,(AV.slice pb5 0 j.ab.length j.ab.length false),(AV.slice sb6 0 j.ab.length j.ab.length false),(AV.slice qb9 0 (aK j).1.length (aK j).1.length qh)]) jk BW k! rfl rfl (by simp only[AV.cells,List.all_cons,List.all_nil,Bool.and_true,Bool.and_self,gr,eO,gu,gv,dG,jK,jL,jM,jN,jO,gz,aae,aih])
   have jl:Has h lR:=Has.dg fJ c9 ch o!
   have abj:Has h4 lR:=Has.dg H2 c9 lI o!
   have Wy:Has m4 lR:=Has.dg Dv c9 mj o!
   have ad5:cb (some (.slice 40)) (some j.aw)=some (Zn j.ab.length):=bV.1.len
   have W6:=fun {al ps} (k:Pk al _ ps)=>(Pd<|LL kK<|MM (aO 25 0 (AV.agg [j.aw,j.ao]) (f_.a _ _ bm) k!)<|EE UH<|NN J7 (fun i=>(Pt i))<|SS vl<|CC<|MM (aO 22 0 j.aw (c9 _ _ o! (eB _ _ (rP.a _ _ (f_.a _ _ bm)))) k!)<|VV ad5<|CC<|k:Pk _ [] ps)
   have PA:=Ch (d:=d) (h:=h) aN j qh au h.nx m4.nx pb5 sb6 qb9 cL bV.1 bV.2 bV (by assumption) (by assumption) (by assumption) (by assumption) (by assumption) o! o! o! o! (ss (by assumption) (by assumption) (by assumption)) ch o! o! o! o! o! o! o! o! o! o! o! o! o! o! o! (((j.ab.length:Nat):Int) - 0).toNat 0 (aK j).2.1 (aK j).2.2 (aK j).1 o! (show ((∀ri,ri<((aK j).1).length→rp 161 ((aK j).1.g ri))∧(0≤0∧0≤(j.ab.length:Int)∧((aK j).1).length=j.af.length∧∀ri,ri<((aK j).1).length→rp (33+2*0) ((aK j).1.g ri))) from ⟨fun r hr=>(G9 (by assumption) r hr).le o!,by omega,by omega,by omega,G9 (by assumption)⟩) (fun k_=>(((MV 0)::aN::(Pt h.nx)::rx MV 3 4 ((Pt m4.nx)::rx MV 8 5 (aN::(Zn au.length)::rx MV 15 16 ((AV.agg [j.aw,j.ao])::(AV.agg [j.aw,j.ao,(AV.slice pb5 0 j.ab.length j.ab.length false),(AV.slice sb6 0 j.ab.length j.ab.length false),(AV.slice qb9 0 (aK j).1.length (aK j).1.length qh)])::(Pt h.nx)::j.aw::(Zn j.ab.length)::(Zi 0)::rx MV 37 42 [])))):List AV).getD k_ AV.undef) lR iQ jl o! l! l! l! (c9 _ _ o! (eB _ _ (rP.a _ _ (f_.a _ _ bm)))) ra (c9 _ _ o! (eB _ _ HY)) (c9 _ _ o! (eB _ _ HZ)) (c9 _ _ o! (eB _ _ abi))
   cases oQ:iN j au (((j.ab.length:Nat):Int) - 0).toNat 0 (aK j).2.1 (aK j).2.2 (aK j).1 with
   | inl su=>
     obtain ⟨aii,l_,PS,uZ,UI,abk,Az,ad6,Fs,UJ,UK,ad7,ad8,ad9,alv,abl⟩:=bS.n oQ PA
     have Cj:Has h PS:=Az
     have pf9:=fun {al ps} (k:Pk al _ ps)=>(W6<|LL uZ<|CC<|MM (aO 76 4 (AV.slice qb9 0 (aK j).1.length (aK j).1.length qh) Fs k!)<|CN 2<|k:Pk _ [] ps)
     have Hv:=Ci (d:=d) (h:=h) j qh su au m4.nx pb5 sb6 qb9 bV.1 bV.2 bV (by assumption) (by assumption) (by assumption) (by assumption) (by assumption) o! o! o! o! o! (by assumption) o! (aK j).1.length 0 o! (fun k_=>(((l_ 0)::aN::(Pt h.nx)::rx l_ 3 4 ((Pt m4.nx)::rx l_ 8 26 (j.aw::(Zn j.ab.length)::rx l_ 36 30 ((AV.ptr m4.nx 4)::(AV.slice qb9 0 (aK j).1.length (aK j).1.length qh)::(Zn (aK j).1.length)::(Zi 0)::rx l_ 70 9 [])))):List AV).getD k_ AV.undef) PS UI Cj Fs UJ UK ad7
     cases Ft:jz j su (aK j).1.length 0 with
     | none=>
       obtain ⟨anG,JP,ME,abm⟩:=aF.n Ft Hv
       have vk:Has h JP:=Cj.trans abm.a
       have e:mD j au=true:=by simp only[mD,ly,oQ,Ft,aj,ai]
       rw[e]
       exact aH rfl (bb Tryz.func23 yu rfl (.inr rfl) (pk (d+3) _ _ h _ JP (pf9<|LL ME<|CC<|ZZ) k!) k!) vk rfl
     | some ah6=>
       obtain ⟨anG,JP,ME,abm⟩:=aF.r Ft Hv
       have vk:Has h JP:=Cj.trans abm.a
       have e:mD j au=ah6:=by simp only[mD,ly,oQ,Ft,aj,ai]
       rw[e]
       exact aH rfl (bb Tryz.func23 yu rfl (.inr rfl) (pk (d+3) _ _ h _ JP (pf9<|LL ME<|ZZ) k!) k!) vk rfl
   | inr SA=>
     obtain ⟨aii,l_,PS,uZ,UI,abk,Az⟩:=bS.r oQ PA
     have Cj:Has h PS:=Az
     have e:mD j au=SA:=by simp only[mD,ly,oQ,aj,ai]
     rw[e]
     exact aH rfl (bb Tryz.func23 yu rfl (.inr rfl) (pk (d+3) _ _ h _ PS (W6<|LL uZ<|ZZ) k!) k!) Cj rfl
 | some rr3=>
   obtain ⟨MV,h4,kK,f_⟩:=aF.r ly Pz
   have lI:=f_.y
   have jC:Has h h4:=bA.trans f_.a
   have e:mD j au=rr3:=by simp only[mD,ly,aj,ai]
   rw[e]
   exact aH rfl (bb Tryz.func23 yu rfl (.inr rfl) (pk (d+3) _ _ h _ h4 (Pd<|LL kK<|ZZ) k!) k!) jC rfl
end
end Go.Proofs.aQ
