import Derived.Test.YtkffioplnoajdaaGreatW0
import Derived.Test.YtkffioplnoajdaaGreatW1
import Derived.Test.YtkffioplnoajdaaGreatW2
namespace Go.Proofs.aP
open Go.Proofs Ab
set_option maxRecDepth 100000
set_option maxHeartbeats 4000000
set_option linter.unusedVariables false
set_option linter.unusedSimpArgs false
noncomputable def D7:Code:=(Tryz.f80.body).getD .skip
theorem Pw:Tryz.f80.body=some D7:=by kernel_rfl
noncomputable def Ra:Code:=(bE D7).getD 0 .skip
def eV (pieces:Int) (t:List Int) (s:Span):Nat→Int→List Int→List Int
 | 0,ff,bD=>bD
 | dz+1,ff,bD=>(bif (decide (ff<((bB ((bB t s.a_).2) (s.aN+1)).1))) then eV pieces t s dz (ff+1) (bD.set (ff.toNat*2+1) (IntKind.i64.wrap ((bD.g (ff.toNat*2+1))+pieces))) else bD)
theorem D8 {d:Nat} {h:au} (tO:Nat) (pieces:Int) (t:List Int) (s:Span) (tP:List AV) (tQ:List AV) (tE:TypeId) (br:Nat) (gU:aL.ok h s) (iy:1≤t.g 322) (kr:t.g 322≤159) (rF:t.g 0=0) (tD:0≤s.a_) (qM:s.aN≤100000000) (tF:tP.length=tO) (bW:Tidy h) (AQ:h.get br=none):∀(k_:Nat) (ff:Int) (bD:List Int) (_:((bB ((bB t s.a_).2) (s.aN+1)).1) - ff≤(k_:Int)) (_:(((0:Int)≤1)∧(0≤ff∧((bB ((bB t s.a_).2) (s.aN+1)).1)≤161))) (x:Nat→AV) (hh:au) (aE:Tidy hh) (aB:Has h hh) (jv:h.nx≤hh.nx) (mo:bD.length=324) (bj:hh.get br=some (aM.cells (tP++zs .i64 bD++tQ) tE false)),cg (σ:=List Int) (ρ:=Unit) (cR (d+1)) Ra ⟨((AV.ptr br tO)::(x 1)::(Zi pieces)::rx x 3 4 ((Zi ((bB ((bB t s.a_).2) (s.aN+1)).1))::(Zi ff)::rx x 9 33 [])),hh,[],.no⟩ (.exit 0) hh (fun r z y=>((AV.ptr br tO)::(y 1)::(Zi pieces)::rx y 3 4 ((Zi ((bB ((bB t s.a_).2) (s.aN+1)).1))::rx y 8 34 []))) (fun r z y=>((AV.ptr br tO)::(y 1)::(Zi pieces)::rx y 3 4 ((Zi ((bB ((bB t s.a_).2) (s.aN+1)).1))::rx y 8 34 []))) (fun r z hk=>Has h hk∧hk.get br=some (aM.cells (tP++zs .i64 r++tQ) tE false)∧r.length=324∧((0:Int)≤1)) (fun r z hk=>Has h hk) (Sum.inl (eV pieces t s k_ ff bD))
 | 0,ff,bD,fX,cL,x,hh,aE,aB,jv,mo,bj=>by
   have je:=aE _ _ bj
   have q1:(decide (ff<((bB ((bB t s.a_).2) (s.aN+1)).1)))=false:=d!
   exact cg.out bD AV.undef rfl (pk (d+1) _ _ hh _ hh (CN 2<|VV (ba 3 false false .i64 ff ((bB ((bB t s.a_).2) (s.aN+1)).1))<|BB q1<|ZZ) k!) aE o! ⟨aB,bj,l!,(show ((0:Int)≤1) from o!)⟩ k!
 | dz+1,ff,bD,fX,cL,x,hh,aE,aB,jv,mo,bj=>by
   have je:=aE _ _ bj
   rcases Bool.eq_false_or_eq_true (decide (ff<((bB ((bB t s.a_).2) (s.aN+1)).1))) with f0 | f0
   · have dO:=of_decide_eq_true f0
     have gv:bS env (some (.array 161 145)) (some (AV.ptr br (tO+0))) (some (Zi ff))=some (AV.ptr br ((tO+0)+ff.toNat*2)):=jR (z:=2) (k:=ff.toNat) k! o! o!
     have YA:bh env hh 3 (AV.ptr br (((tO+0)+ff.toNat*2)+1))=some (Zi (bD.g (ff.toNat*2+1))):=(eT (j:=(ff.toNat*2+1)) (o:=tO) k! bj o! l! o!)
     have Nf:bS env (some (.array 161 145)) (some (AV.ptr br (tO+0))) (some (Zi ff))=some (AV.ptr br ((tO+0)+ff.toNat*2)):=jR (z:=2) (k:=ff.toNat) k! o! o!
     obtain ⟨h5,YB,abO,aeY⟩:=pU (t:=3) (j:=(ff.toNat*2+1)) (x:=((tO+0)+ff.toNat*2)+1) (o:=tO) (v:=(IntKind.i64.wrap ((bD.g (ff.toNat*2+1))+pieces))) aE k! bj o! l! o!
     have lJ:=abO.1
     have ahh:(bD.set (ff.toNat*2+1) (IntKind.i64.wrap ((bD.g (ff.toNat*2+1))+pieces))).g 0=bD.g 0:=bf o! _
     have aeZ:(bD.set (ff.toNat*2+1) (IntKind.i64.wrap ((bD.g (ff.toNat*2+1))+pieces))).g 322=bD.g 322:=bf o! _
     have ae0:(bD.set (ff.toNat*2+1) (IntKind.i64.wrap ((bD.g (ff.toNat*2+1))+pieces))).g 323=bD.g 323:=bf o! _
     have gA:Has h h5:=fP abO aB (by first | assumption | exact cU bW o!)
     have w6:IntKind.i64.wrap (ff+1)=ff+1:=wrap_i64 o! o!
     exact cg.round (congrArg Sum.inl (by simp only[eV,f0,cond_true,cond_false])) (pk (d+1) _ _ hh _ h5 (CN 2<|VV (ba 3 false false .i64 ff ((bB ((bB t s.a_).2) (s.aN+1)).1))<|BB f0<|CN 4<|VV gv<|CC<|MM YA<|CN 4<|VV Nf<|CC<|SS YB<|HH YA<|HH (show AV.same 20 (Zi (bD.g (ff.toNat*2+1))) (Zi (bD.g (ff.toNat*2+1)))=true from aJ 19 _ _)<|CC<|VV (pK 3 false true w6)<|CC<|ZZ) k!) o! _ k! (fun x=>D8 tO pieces t s tP tQ tE br gU iy kr rF tD qM tF bW AQ dz (ff+1) (bD.set (ff.toNat*2+1) (IntKind.i64.wrap ((bD.g (ff.toNat*2+1))+pieces))) o! (show (((0:Int)≤1)∧(0≤(ff+1)∧((bB ((bB t s.a_).2) (s.aN+1)).1)≤161)) from o!) x h5 lJ gA o! l! abO.2.1)
   · have dO:=of_decide_eq_false f0
     exact cg.out bD AV.undef (congrArg Sum.inl (by simp only[eV,f0,cond_true,cond_false])) (pk (d+1) _ _ hh _ hh (CN 2<|VV (ba 3 false false .i64 ff ((bB ((bB t s.a_).2) (s.aN+1)).1))<|BB f0<|ZZ) k!) aE o! ⟨aB,bj,l!,(show ((0:Int)≤1) from o!)⟩ k!
def eC (t:List Int) (s:Span) (pieces:Int):List Int:=(bif (decide (s.aN<s.a_)) then t else (eV pieces t s (((bB ((bB t s.a_).2) (s.aN+1)).1) -((bB t s.a_).1)).toNat ((bB t s.a_).1) ((bB ((bB t s.a_).2) (s.aN+1)).2)))
theorem Px {d:Nat} {h hh:au} {tB tO:Nat} {tP tQ:List AV} {tE:TypeId} (t:List Int) (s:Span) (pieces:Int) (qd:aL.ok h s) (wj:hh.get tB=some (aM.cells (tP++zs .i64 t++tQ) tE false)) (aeS:tP.length=tO) (aeT:t.length=324) (p_t:h.get tB=none) (lI:1≤t.g 322) (oL:t.g 322≤159) (D2:t.g 0=0) (FK:0≤s.a_) (Rb:s.aN≤100000000) (bW:Tidy h) (aE:Tidy hh) (aB:Has h hh) (jv:h.nx≤hh.nx):∃hk,cR (d+2) (.fn 80) [(AV.ptr tB tO),(AV.agg [(Zi s.a_),(Zi s.aN)]),(Zi pieces)] hh= .ret (AV.tuple []) hk∧Tidy hk∧hh.nx≤hk.nx∧Has h hk∧hk.get tB=some (aM.cells (tP++zs .i64 (eC t s pieces)++tQ) tE false)∧(eC t s pieces).length=324:=by
 have T_t:=aE _ _ wj
 obtain ⟨h1,bM,cx,jc,aQ,cA⟩:=j_ aE (aM.cells [(Zi s.a_),(Zi s.aN)] 74 false)
 have bt:Has h h1:=aB.trans cA
 rcases Bool.eq_false_or_eq_true (decide (s.aN<s.a_)) with f0 | f0
 · have dO:=of_decide_eq_true f0
   have e:eC t s pieces=t:=by simp only[eC,f0,cond_true,cond_false]
   rw[e]
   exact kP rfl (bb Tryz.func80 Pw rfl (.inr rfl) (pk (d+1) _ _ hh _ h1 (NN bM (fun i=>(Pt i))<|CC<|MM (aw 3 0 (Zi s.a_) aQ k!)<|CC<|MM (aw 3 1 (Zi s.aN) aQ k!)<|VV (bR 3 false false .i64 s.a_ s.aN)<|BB f0<|ZZ) k!) k!) aE cx o! ⟨bt,(cA _ _ wj),l!⟩ (fun q=>⟨aB,jQ q wj (cA _ _ wj),l!⟩)
 · have dO:=of_decide_eq_false f0
   have w3:IntKind.i64.wrap (s.aN+1)=s.aN+1:=wrap_i64 o! o!
   obtain ⟨hw4,ae1,ahi,abP,abQ,UD⟩:=mM cx (cA _ _ wj)
   have ae2:Has h hw4:=eU bt (by first | assumption | exact cU bW o!) UD
   obtain ⟨h5,ahj,lJ,tG,Py,UE,abR⟩:=Pv (d:=d) (h:=hw4) (tO:=tO) t s.a_ (cA _ _ wj) o! l! abP (by first | omega | assumption | (simp only[List.length_set,List.length_replicate,List.length_append,List.length_cons,List.length_nil,List.nil_append]<;>omega) | (rw[List.length_take];omega)) (by first | omega | assumption | (simp only[List.length_set,List.length_replicate,List.length_append,List.length_cons,List.length_nil,List.nil_append]<;>omega) | (rw[List.length_take];omega)) (by first | omega | assumption | (simp only[List.length_set,List.length_replicate,List.length_append,List.length_cons,List.length_nil,List.nil_append]<;>omega) | (rw[List.length_take];omega)) (by first | omega | assumption | (simp only[List.length_set,List.length_replicate,List.length_append,List.length_cons,List.length_nil,List.nil_append]<;>omega) | (rw[List.length_take];omega)) ae1 cx abQ o!
   have aiA:=zg t s.a_ o! o! o! o! o!
   have gA:Has h h5:=(ae2.trans Py)
   obtain ⟨hw6,ae3,ahk,abS,abT,abU⟩:=mM lJ UE
   have ae4:Has h hw6:=eU gA (by first | assumption | exact cU bW o!) abU
   obtain ⟨h7,ahl,fQ,abV,ae5,abW,ahm⟩:=Pv (d:=d) (h:=hw6) (tO:=tO) ((bB t s.a_).2) (s.aN+1) UE o! l! abS (by first | omega | assumption | (simp only[List.length_set,List.length_replicate,List.length_append,List.length_cons,List.length_nil,List.nil_append]<;>omega) | (rw[List.length_take];omega)) (by first | omega | assumption | (simp only[List.length_set,List.length_replicate,List.length_append,List.length_cons,List.length_nil,List.nil_append]<;>omega) | (rw[List.length_take];omega)) (by first | omega | assumption | (simp only[List.length_set,List.length_replicate,List.length_append,List.length_cons,List.length_nil,List.nil_append]<;>omega) | (rw[List.length_take];omega)) (by first | omega | assumption | (simp only[List.length_set,List.length_replicate,List.length_append,List.length_cons,List.length_nil,List.nil_append]<;>omega) | (rw[List.length_take];omega)) ae3 lJ abT o!
   have aiB:=zg ((bB t s.a_).2) (s.aN+1) o! o! o! o! o!
   have eL:Has h h7:=(ae4.trans ae5)
   obtain ⟨ae6,yl8,h9,mO,nz,FN,BP,Ng,UF,agd⟩:=cg.n rfl (D8 (d:=d) (h:=h) tO pieces t s tP tQ tE tB qd o! o! o! o! o! o! bW (by first | assumption | exact cU bW o!) (((bB ((bB t s.a_).2) (s.aN+1)).1) -((bB t s.a_).1)).toNat ((bB t s.a_).1) ((bB ((bB t s.a_).2) (s.aN+1)).2) o! (show (((0:Int)≤1)∧(0≤((bB t s.a_).1)∧((bB ((bB t s.a_).2) (s.aN+1)).1)≤161)) from o!) (fun k_=>(((AV.ptr tB tO)::(AV.agg [(Zi s.a_),(Zi s.aN)])::(Zi pieces)::AV.undef::(Pt hh.nx)::AV.undef::(Zi ((bB t s.a_).1))::(Zi ((bB ((bB t s.a_).2) (s.aN+1)).1))::(Zi ((bB t s.a_).1))::(Pt hh.nx)::(Zi s.a_)::(AV.ptr hh.nx 1)::(Zi s.aN)::(AV.bool (decide (s.aN<s.a_)))::(AV.ptr tB tO)::(Pt hh.nx)::(Zi s.a_)::(Zi ((bB t s.a_).1))::(AV.ptr tB tO)::(AV.ptr hh.nx 1)::(Zi s.aN)::(Zi (s.aN+1))::(Zi ((bB ((bB t s.a_).2) (s.aN+1)).1))::(Zi ((bB t s.a_).1))::g4 18):List AV).getD k_ AV.undef) h7 fQ eL o! l! abW)
   have hZ:Has h h9:=BP
   have e:eC t s pieces=(eV pieces t s (((bB ((bB t s.a_).2) (s.aN+1)).1) -((bB t s.a_).1)).toNat ((bB t s.a_).1) ((bB ((bB t s.a_).2) (s.aN+1)).2)):=by simp only[eC,f0,cond_true,cond_false]
   rw[e]
   exact kP rfl (bb Tryz.func80 Pw rfl (.inl rfl) (pk (d+1) _ _ hh _ h9 (NN bM (fun i=>(Pt i))<|CC<|MM (aw 3 0 (Zi s.a_) aQ k!)<|CC<|MM (aw 3 1 (Zi s.aN) aQ k!)<|VV (bR 3 false false .i64 s.a_ s.aN)<|BB f0<|CN 2<|MM (aw 3 0 (Zi s.a_) aQ k!)<|CN 2<|MM (aw 3 1 (Zi s.aN) aQ k!)<|VV (pK 3 false true w3)<|EE ahj<|EE ahl<|CN 2<|HH (aw 3 0 (Zi s.a_) aQ k!)<|HH (show AV.same 20 (Zi s.a_) (Zi s.a_)=true from aJ 19 _ _)<|HH (aw 3 1 (Zi s.aN) aQ k!)<|HH (show AV.same 20 (Zi s.aN) (Zi s.aN)=true from aJ 19 _ _)<|HH (aw 3 1 (Zi s.aN) (Py _ _ ((UD _ o!).trans aQ)) k!)<|HH (show AV.same 20 (Zi s.aN) (Zi s.aN)=true from aJ 19 _ _)<|CN 2<|LL mO<|ZZ) k!) k!) aE nz o! ⟨hZ,Ng,l!⟩ (fun q=>⟨aB,jQ q wj Ng,l!⟩)
def fit (l:List Int):List Int:=(l++List.replicate 324 0).take 324
theorem vN (l:List Int):(fit l).length=324:=by
 rw[fit,List.length_take,List.length_append,List.length_replicate];omega
theorem xq {l:List Int} (h:l.length=324):fit l=l:=by
 rw[fit,←h,List.take_left'];rfl
structure Tl where
 l:List Int
def l7 (L:List Tl):List AV:=L.flatMap fun t=>zs .i64 (fit t.l)
instance:Inhabited Tl:=⟨⟨[]⟩⟩
theorem Pz (t:Tl):(zs .i64 (fit t.l)).length=324:=by rw[fB,vN]
theorem UG (L:List Tl):(l7 L).length=L.length*324:=eB Pz L
theorem zh (a b:List Tl):l7 (a++b)=l7 a++l7 b:=List.flatMap_append ..
theorem D9 {L:List Tl} {i:Nat} (h:i<L.length):l7 L=l7 (L.take i)++zs .i64 (fit (L.g i).l)++l7 (L.drop (i+1))∧(l7 (L.take i)).length=i*324:=by
 constructor
 · have e:L=L.take i++[L.g i]++L.drop (i+1):=by
    have hg:L.g i=L[i]:=by rw[List.g,List.getD_eq_getElem?_getD,List.getElem?_eq_getElem h];rfl
    rw[hg,List.append_assoc,List.singleton_append,←List.drop_eq_getElem_cons h,List.take_append_drop]
   rw[congrArg l7 e,zh,zh]
   rw[show l7 [L.g i]=zs .i64 (fit (L.g i).l) from List.append_nil _]
 · rw[UG,List.length_take,Nat.min_eq_left (Nat.le_of_lt h)]
theorem UH {L:List Tl} {i:Nat} (h:i<L.length) {t:List Int} (ht:t.length=324):l7 (L.set i ⟨t⟩)=l7 (L.take i)++zs .i64 t++l7 (L.drop (i+1)):=by
 have e:L.set i ⟨t⟩=L.take i++[⟨t⟩]++L.drop (i+1):=by rw[List.set_eq_take_append_cons_drop,if_pos h];simp
 rw[e,zh,zh]
 rw[show l7 [⟨t⟩]=zs .i64 (fit t) from List.append_nil _,xq ht]
theorem PA {h:au} {b i:Nat} {L:List Tl} {e:TypeId} {ro:Bool} (hg:h.get b=some (.cells (l7 L) e ro)) (hi:i<L.length):h.get b=some (.cells (l7 (L.take i)++zs .i64 (fit (L.g i).l)++l7 (L.drop (i+1))) e ro):=by
 rw[hg,(D9 hi).1]
theorem UI {h:au} {b i:Nat} {L:List Tl} {e:TypeId} {ro:Bool} {t:List Int} (hi:i<L.length) (ht:t.length=324) (hg:h.get b=some (.cells (l7 (L.take i)++zs .i64 t++l7 (L.drop (i+1))) e ro)):h.get b=some (.cells (l7 (L.set i ⟨t⟩)) e ro):=by
 rw[hg,UH hi ht]
theorem Rc {L:List Tl} {i:Nat} {t:Tl} (h:i<L.length):(L.set i t).g i=t:=by
 rw[List.g,List.getD_eq_getElem?_getD,List.getElem?_set_self h];rfl
theorem AR {L:List Tl} {i j:Nat} (h:i≠j) (t:Tl):(L.set i t).g j=L.g j:=by
 rw[List.g,List.g,List.getD_eq_getElem?_getD,List.getD_eq_getElem?_getD,List.getElem?_set_ne h]
def bsl (e:TypeId) (L:List Int):Option (aM×(Nat→AV)):=match pw (fun i=>some (i*324,324)) (bT (zs .i64 (List.replicate 324 0)) 1) [(0,AV.agg (zs .i64 L))] with
 | some cs=>some (.cells cs e false,fun i=> .slice i 0 1 1 false)
 | none=>none
theorem abX {e:TypeId} {L:List Int} (h:L.length=324):bsl e L=some (.cells (zs .i64 L) e false,fun i=> .slice i 0 1 1 false):=by
 have hr:bT (zs .i64 (List.replicate 324 0)) 1=[]++zs .i64 (List.replicate 324 0)++[]:=by
  rw[List.nil_append];rfl
 have hc:(AV.agg (zs .i64 L)).cells=zs .i64 L:=rfl
 have hs:=qp [] [] L (List.replicate 324 0) 0 (by rw[List.length_replicate,h];exact Nat.le_refl _)
 have hf:pw (fun i=>some (i*324,324)) (bT (zs .i64 (List.replicate 324 0)) 1) [(0,AV.agg (zs .i64 L))]=some (zs .i64 L):=by
  rw[hr]
  simp only[pw,hc,fB,h]
  rw[if_pos ⟨trivial,by simp [fB]⟩,show 0*324=List.length ([]:List AV)+0 from rfl,hs]
  simp [h]
 rw[bsl,hf]
theorem Nh {h:au} {b t:Nat} {e:TypeId} {C:List AV} {L:List Int} (y:Tidy h) (hs:bU env t=some 324) (hg:h.get b=some (.cells C e false)) (hC:C.length=324) (hL:L.length=324):∃(P Q:List AV) (h':au),dL env h t (.ptr b 0) (.agg (zs .i64 L))=some h'∧Iw h h' b (.cells (P++zs .i64 L++Q) e false)∧h'.nx=h.nx∧P.length=0:=by
 refine ⟨[],[],?_⟩
 obtain ⟨h',s⟩:=rE (E:=env) (t:=t) (o:=0) (n:=324) (v:= .agg (zs .i64 L)) hg hs (by show (zs .i64 L).length=324;rw[fB,hL]) o! (vL L)
 have q:=od s hg
 have c:=j9 (o:= .cells ([]++zs .i64 L++[]) e false) y hg
 have e2:setFrom C 0 (AV.agg (zs .i64 L)).cells=[]++zs .i64 L++[]:=by
  show setFrom C 0 (zs .i64 L)=_
  rw[List.nil_append,List.append_nil]
  apply List.ext_getElem?
  intro k
  rw[jg,fB]
  by_cases hk:k<324
  · rw[if_pos ⟨by omega,by omega,by omega⟩,Nat.sub_zero]
  · rw[if_neg o!,List.getElem?_eq_none o!,List.getElem?_eq_none (by rw[fB];omega)]
 rw[e2] at q
 subst q
 exact ⟨_,s,c,rfl,rfl⟩
theorem Rd {h:au} {b t:Nat} {e:TypeId} {ro:Bool} {P Q:List AV} {L:List Int} (ha:fw env t=some true) (hs:bU env t=some 324) (hg:h.get b=some (.cells (P++zs .i64 L++Q) e ro)) (hP:P.length=0) (hL:L.length=324):bh env h t (.ptr b 0)=some (.agg (zs .i64 L)):=by
 have:P=[]:=List.length_eq_zero_iff.1 hP
 subst this
 simp only[bh,hg,iK,ha,hs]
 rw[if_pos (by simp [fB];omega)]
 rw[List.nil_append,List.drop_zero,List.take_append_of_le_length (by rw[fB];omega),List.take_of_length_le (by rw[fB];omega)]
instance:aL Tl:={toInhabited:=inferInstance,c:=fun t=>zs .i64 (fit t.l),n:=324,e:=148,len:=Pz,ok:=fun _ _=>True,mono:=fun _ o=>o,size:=by kernel_rfl,agg:=by kernel_rfl,pos:=by decide}
def ni (g h:au) (z:AV) (L:List Tl):Prop:=(z= .aH∧L=[])∨(L≠ []∧∃p op,z= .slice p 0 L.length L.length op∧g.nx≤p∧h.get p=some (.cells (l7 L) 148 false))
theorem ni.Yt {g h:au} {s xt b:TypeId} {tys:Array TypeId} {bytes:Nat} {z0 z:AV} {L:List Tl} {t:List Int} {e:TypeId} {ro op:Bool} (y:Tidy h) (hle:g.nx≤h.nx) (o:ni g h z L) (hg:h.get b=some (.cells (zs .i64 t) e ro)) (ht:t.length=324) (hl:L.length≤1000)
 (t0:tys[0]? =some s) (t1:tys[1]? =some xt) (hs:env.P.underlying s=some (.slice 148)) (hx:env.P.underlying xt=some (.slice 148)) (hb:ke env 148=some bytes) (GY:gR env 148=some z0) (hz:z0.cells.length=324) (h8:bytes≤4095):
 ∃z' h',dJ env h tys z (.slice b 0 1 1 op)=some (z',h')∧Tidy h'∧h.nx≤h'.nx∧(∀i w,i<g.nx→h.get i=some w→h'.get i=some w)∧ni g h' z' (L++[⟨t⟩]):=by
 let he:au:=⟨HT.nil,g.nx,fun _=>none⟩
 have hen:∀i,he.get i=none:=fun i=>Pj i g.nx
 have ye:Tidy he:=fun i x q=>by rw[hen] at q;cases q
 have ae:Has he h:=fun i x q=>by rw[hen] at q;cases q
 have oe:yZ he h z L:=o.imp (fun q=>⟨.inl q.1,q.2⟩) id
 have hc:aL.c (⟨t⟩:Tl)=zs .i64 t:=congrArg (zs .i64) (xq ht)
 obtain ⟨z',h',a1,a2,a3,a4,a5,a6⟩:=yZ.ahb (α:=Tl) (N:=2000) (m:=[⟨t⟩]) (x:= .slice b 0 1 1 op) y ye ae hle oe rfl (Nb (x:=(⟨t⟩:Tl)) (by rw[hc];exact hg)) (by rw[List.flatMap_cons,List.flatMap_nil,List.append_nil,hc];exact vL t) (by simp;omega) t0 t1 hs hx hb GY hz (fun k hk=>Nat.le_trans (Nat.mul_le_mul (show 4*k+4096≤20000 by omega) (show bytes+1≤4096 by omega)) (by decide))
 refine ⟨z',h',a1,a2,a3,fun i w hi q=>a6 i w (fun p n c b e=>?_) q,?_⟩
 · rcases o with ⟨rfl,_⟩ | ⟨_,p',op',rfl,h1,_⟩
   · cases e
   · have:=(AV.slice.inj e).1;omega
 · rcases a5 with ⟨_,e⟩ | q
   · simp at e
   · exact .inr q
theorem ni.has {g h h':au} {z:AV} {L:List Tl} (o:ni g h z L) (a:Has h h'):ni g h' z L:=o.imp id fun ⟨hn,p,op,e,h1,q⟩=>⟨hn,p,op,e,h1,a _ _ q⟩
theorem ni.kept {g h h':au} {z:AV} {L:List Tl} {b:Nat} (o:ni g h z L) (c:Kept b h h') (hb:b<g.nx):ni g h' z L:=o.imp id fun ⟨hn,p,op,e,h1,q⟩=>⟨hn,p,op,e,h1,c _ _ o! q⟩
theorem ni.scalar {g h:au} {z:AV} {L:List Tl} (o:ni g h z L):AV.scalar z=true:=by
 rcases o with ⟨rfl,_⟩ | ⟨hn,p,op,rfl,h1,q⟩<;>rfl
theorem ni.block {g h:au} {z:AV} {L:List Tl} (o:ni g h z L) (hL:0<L.length):∃p op,z= .slice p 0 L.length L.length op∧g.nx≤p∧h.get p=some (.cells (l7 L) 148 false):=by
 rcases o with ⟨_,rfl⟩ | ⟨_,p,op,e,h1,q⟩
 · simp at hL
 · exact ⟨p,op,e,h1,q⟩
theorem ni.aho {g h:au} {z:AV} {L:List Tl} (o:ni g h z L) (hL:L.length=0):z= .aH:=by
 rcases o with ⟨e,_⟩ | ⟨hn,_⟩
 · exact e
 · exact absurd (List.length_eq_zero_iff.1 hL) hn
def lu (c:Int) (t:Tl):Prop:=1≤(fit t.l).g 322∧(fit t.l).g 322≤c∧(fit t.l).g 0=0
theorem lu.le {c c':Int} {t:Tl} (h:lu c t) (hc:c≤c'):lu c' t:=⟨h.1,Int.le_trans h.2.1 hc,h.2.2⟩
theorem K8 {nx:Nat} {a b z:AV} {cs:List AV} (h:AV.within nx 20 (.agg (a::b::z::cs))=true):AV.within nx (18+1) z=true:=by
 simp only[AV.within,List.all_cons,Bool.and_eq_true] at h
 exact h.2.2.1
theorem zi {A:List Tl} {u:List jh} {v:Int} {t:Tl} {n:Int} (ur:∀q,q<u.length→0≤(u.g q).ah∧(u.g q).ah<n) (ud:∀a,a<u.length→∀b,a<b→b<u.length→(u.g a).ah≠(u.g b).ah) (h0:0≤v) (hv:v<(u.length:Int)) (hi:∀q:Nat,v≤(q:Int)→q<u.length→lu 159 (A.g (Int.toNat (u.g q).ah))):∀q:Nat,v+1≤(q:Int)→q<u.length→lu 159 ((A.set (Int.toNat (u.g (Int.toNat v)).ah) t).g (Int.toNat (u.g q).ah)):=fun q hq hl=>by
 have a:=ur (Int.toNat v) o!
 have b:=ur q hl
 have c:=ud (Int.toNat v) o! q o! hl
 rw[AR o!]
 exact hi q o! hl
theorem BQ {pieces:Int} {t:List Int} {s:Span} (h1:(bB ((bB t s.a_).2) (s.aN+1)).1≤161):∀(kq:Nat) (v:Int) (a:List Int),0≤v→a.length=324→(eV pieces t s kq v a).length=324∧(eV pieces t s kq v a).g 322=a.g 322∧(eV pieces t s kq v a).g 323=a.g 323∧(eV pieces t s kq v a).g 0=a.g 0
 | 0,v,a,hv,ha=>by rw[eV];exact ⟨ha,rfl,rfl,rfl⟩
 | kq+1,v,a,hv,ha=>by
   rw[eV]
   by_cases f:v<(bB ((bB t s.a_).2) (s.aN+1)).1
   · rw[decide_eq_true f,cond_true]
     obtain ⟨b1,b2,b3,b4⟩:=BQ h1 kq (v+1) (a.set ((Int.toNat v)*2+1) (IntKind.i64.wrap ((a.g ((Int.toNat v)*2+1))+pieces))) o! (by rw[List.length_set];exact ha)
     exact ⟨b1,by rw[b2,bf o!],by rw[b3,bf o!],by rw[b4,bf o!]⟩
   · rw[decide_eq_false f,cond_false];exact ⟨ha,rfl,rfl,rfl⟩
theorem zk (t:List Int) (s:Span) (p:Int) (ln:t.length=324) (p0:1≤t.g 322) (p1:t.g 322≤159) (p2:t.g 0=0) (p3:0≤s.a_) (p4:s.aN≤100000000):1≤(eC t s p).g 322∧(eC t s p).g 322≤t.g 322+2∧(eC t s p).g 0=0∧(eC t s p).g 323=t.g 323∧(eC t s p).length=324:=by
 rw[eC]
 by_cases f:s.aN<s.a_
 · rw[decide_eq_true f,cond_true];exact ⟨p0,by omega,p2,rfl,ln⟩
 · rw[decide_eq_false f,cond_false]
   obtain ⟨a1,a2,a3,a4,a5,a6,a7⟩:=zg t s.a_ ln p0 o! p2 p3
   obtain ⟨c1,c2,c3,c4,c5,c6,c7⟩:=zg (bB t s.a_).2 (s.aN+1) a7 o! o! a5 o!
   obtain ⟨b1,b2,b3,b4⟩:=BQ (pieces:=p) (t:=t) (s:=s) o! (Int.toNat (((bB ((bB t s.a_).2) (s.aN+1)).1) -((bB t s.a_).1))) ((bB t s.a_).1) ((bB ((bB t s.a_).2) (s.aN+1)).2) a1 c7
   exact ⟨by omega,by omega,by omega,by omega,b1⟩
theorem wq (ay:Int):(ct ay).g 322=1∧(ct ay).g 0=0∧(ct ay).length=324∧(ct ay).g 323=ay:=⟨rfl,rfl,rfl,rfl⟩
noncomputable def oM:Code:=(Tryz.f37.body).getD .skip
theorem IG:Tryz.f37.body=some oM:=by kernel_rfl
noncomputable def D_:Code:=(bE oM).getD 0 .skip
noncomputable def D':Code:=(bE oM).getD 1 .skip
def cS (j:cz) (i0:Nat):Nat→Int→List Int→List Int
 | 0,eZ,ca=>ca
 | qN+1,eZ,ca=>(bif (decide (eZ<((((j.af.g i0).off).length:Nat):Int))) then cS j i0 qN (eZ+1) (eC ca (((j.af.g i0).off).g eZ.toNat) ((j.af.g i0).ay)) else ca)
theorem tf {d:Nat} {h:au} (j:cz) (i0:Nat) (Re:List AV) (UJ:List AV) (cE:Nat) (cK:Nat) (h_:Nat) (iH:Nat) (tH:Nat) (ahq:Nat) (dM:aS h j.ag j.af) (dm:aS h ((j.af.g i0).cB) ((j.af.g i0).off)) (l8:((j.af.g i0).name).length<2^60) (l9:aL.ok h j) (IH:aL.ok h (j.af.g i0)) (Ea:i0<j.af.length) (pa:∀r,r<j.af.length→(j.af.g r).off.length≤16∧∀q,q<(j.af.g r).off.length→0≤((j.af.g r).off.g q).a_∧((j.af.g r).off.g q).aN≤100000) (sr:j.af.length≤16) (dv:j.ab.length≤100000) (jS:Re.length=0) (bW:Tidy h) (II:h.get h_=none) (Ni:h.get iH=none) (xr:iH≠h_):∀(k_:Nat) (eZ:Int) (ca:List Int) (_:((((j.af.g i0).off).length:Nat):Int) - eZ≤(k_:Int)) (_:(((0:Int)≤1)∧(0≤eZ∧1≤(ca).g 322∧(ca).g 322≤1+2*eZ∧(ca).g 0=0))) (x:Nat→AV) (hh:au) (aE:Tidy hh) (aB:Has h hh) (jv:h.nx≤hh.nx) (qt:ca.length=324) (bZ:hh.get h_=some (aM.cells [(AV.str ((j.af.g i0).name)),(Zi ((j.af.g i0).ay)),((j.af.g i0).cB)] 41 false)) (cf:hh.get iH=some (aM.cells (Re++zs .i64 ca++UJ) 148 false)),cg (σ:=List Int) (ρ:=Unit) (cR (d+2)) D' ⟨((x 0)::(x 1)::(Pt cE)::(Pt cK)::(x 4)::(Pt h_)::(Pt iH)::rx x 7 13 (j.ag::(Zn j.af.length)::(Zn i0)::rx x 23 7 (((j.af.g i0).cB)::(Zn (((j.af.g i0).off).length))::(Zi eZ)::rx x 33 16 []))),hh,[],.no⟩ (.exit 2) hh (fun r z y=>((y 0)::(y 1)::(Pt cE)::(Pt cK)::(y 4)::(Pt h_)::(Pt iH)::rx y 7 13 (j.ag::(Zn j.af.length)::(Zn i0)::rx y 23 7 (((j.af.g i0).cB)::(Zn (((j.af.g i0).off).length))::rx y 32 17 [])))) (fun r z y=>((y 0)::(y 1)::(Pt cE)::(Pt cK)::(y 4)::(Pt h_)::(Pt iH)::rx y 7 13 (j.ag::(Zn j.af.length)::(Zn i0)::rx y 23 7 (((j.af.g i0).cB)::(Zn (((j.af.g i0).off).length))::rx y 32 17 [])))) (fun r z hk=>Has h hk∧hk.get h_=some (aM.cells [(AV.str ((j.af.g i0).name)),(Zi ((j.af.g i0).ay)),((j.af.g i0).cB)] 41 false)∧hk.get iH=some (aM.cells (Re++zs .i64 r++UJ) 148 false)∧r.length=324∧((0:Int)≤1)) (fun r z hk=>Has h hk) (Sum.inl (cS j i0 k_ eZ ca))
 | 0,eZ,ca,fX,cL,x,hh,aE,aB,jv,qt,bZ,cf=>by
   have jy:=dM.small
   have jz:=dm.small
   have ss:=aE _ _ bZ
   have AS:=aE _ _ cf
   have rl_:=(pa i0 o!).1
   have ro_:=(pa i0 o!).2 eZ.toNat
   have q1:(decide (eZ<((((j.af.g i0).off).length:Nat):Int)))=false:=d!
   exact cg.out ca AV.undef rfl (pk (d+2) _ _ hh _ hh (VV (ba 3 false false .i64 eZ ((((j.af.g i0).off).length:Nat):Int))<|BB q1<|ZZ) k!) aE o! ⟨aB,bZ,cf,l!,(show ((0:Int)≤1) from o!)⟩ k!
 | qN+1,eZ,ca,fX,cL,x,hh,aE,aB,jv,qt,bZ,cf=>by
   have jy:=dM.small
   have jz:=dm.small
   have ss:=aE _ _ bZ
   have AS:=aE _ _ cf
   have rl_:=(pa i0 o!).1
   have ro_:=(pa i0 o!).2 eZ.toNat
   rcases Bool.eq_false_or_eq_true (decide (eZ<((((j.af.g i0).off).length:Nat):Int))) with f0 | f0
   · have dO:=of_decide_eq_true f0
     obtain ⟨p3,q4,cX⟩:=dm.elem (i:=eZ.toNat) o!
     have gv:bS env (some (.slice 74)) (some ((j.af.g i0).cB)) (some (Zi eZ))=some (AV.ptr p3 q4):=by rw[show (eZ:Int)=((eZ.toNat:Nat):Int) by omega];exact cX
     have g5:bh env hh 74 (AV.ptr p3 q4)=some (AV.agg [(Zi ((((j.af.g i0).off).g eZ.toNat).a_)),(Zi ((((j.af.g i0).off).g eZ.toNat).aN))]):=(dm.has aB).load o! cX
     obtain ⟨h6,lx,jf,Eb,pV,cu⟩:=j_ aE (aM.cells [(Zi 0),(Zi 0)] 74 false)
     have ia:Has h h6:=aB.trans cu
     obtain ⟨h7,ks,fQ,zl,fD,bI⟩:=qL (t:=74) (n:=2) (i:=hh.nx) (L:=[(Zi ((((j.af.g i0).off).g eZ.toNat).a_)),(Zi ((((j.af.g i0).off).g eZ.toNat).aN))]) jf pV k! rfl rfl (by simp only[AV.cells,List.all_cons,List.all_nil,Bool.and_true,Bool.and_self,iO,fY,iP,iQ,eS,mg,mh,mi,mj,ml,iR])
     have eL:Has h h7:=Has.ea ia bI bW o!
     obtain ⟨hw8,ae8,ahr,abY,abZ,UK⟩:=mM fQ (bI _ _ o! (cu _ _ cf))
     have ae9:Has h hw8:=eU eL (by first | assumption | exact cU bW o!) UK
     obtain ⟨h9,FQ,nz,FN,BP,ab0,UF⟩:=Px (d:=d) (h:=hw8) (tO:=0) ca (((j.af.g i0).off).g eZ.toNat) ((j.af.g i0).ay) trivial (bI _ _ o! (cu _ _ cf)) o! l! abY (by first | omega | exact ro_.2.1 | (dsimp only;omega)) (by first | omega | exact ro_.2.1 | (dsimp only;omega)) (by first | omega | exact ro_.2.1 | (dsimp only;omega)) (by first | omega | exact ro_.2.1 | (dsimp only;omega)) (by first | omega | exact ro_.2.1 | (dsimp only;omega)) ae8 fQ abZ o!
     have aiC:=zk ca (((j.af.g i0).off).g eZ.toNat) ((j.af.g i0).ay) (by first | omega | exact vN _) (by first | omega | exact (Fl o! o!).1) (by first | omega | exact (Fl o! o!).2.1) (by first | omega | exact (Fl o! o!).2.2) (by first | omega | (dsimp only;omega)) (by first | omega | (dsimp only;omega))
     have hZ:Has h h9:=(ae9.trans BP)
     have w10:IntKind.i64.wrap (eZ+1)=eZ+1:=wrap_i64 o! o!
     exact cg.round (congrArg Sum.inl (by simp only[cS,f0,cond_true,cond_false])) (pk (d+2) _ _ hh _ h9 (VV (ba 3 false false .i64 eZ ((((j.af.g i0).off).length:Nat):Int))<|BV f0 gv<|MM g5<|NN lx (fun i=>(Pt i))<|SS ks<|MM (aw 74 0 (AV.agg [(Zi ((((j.af.g i0).off).g eZ.toNat).a_)),(Zi ((((j.af.g i0).off).g eZ.toNat).aN))]) fD k!)<|CC<|MM (aw 3 1 (Zi ((j.af.g i0).ay)) (bI _ _ o! (cu _ _ bZ)) k!)<|EE FQ<|VV (pK 3 false true w10)<|CC<|ZZ) k!) o! _ k! (fun x=>tf j i0 Re UJ cE cK h_ iH tH ahq dM dm l8 l9 IH Ea pa sr dv jS bW II Ni xr qN (eZ+1) (eC ca (((j.af.g i0).off).g eZ.toNat) ((j.af.g i0).ay)) o! (show (((0:Int)≤1)∧(0≤(eZ+1)∧1≤((eC ca (((j.af.g i0).off).g eZ.toNat) ((j.af.g i0).ay))).g 322∧((eC ca (((j.af.g i0).off).g eZ.toNat) ((j.af.g i0).ay))).g 322≤1+2*(eZ+1)∧((eC ca (((j.af.g i0).off).g eZ.toNat) ((j.af.g i0).ay))).g 0=0)) from o!) x h9 nz hZ o! l! (BP _ _ ((UK _ o!).trans (bI _ _ o! (cu _ _ bZ)))) ab0)
   · have dO:=of_decide_eq_false f0
     exact cg.out ca AV.undef (congrArg Sum.inl (by simp only[cS,f0,cond_true,cond_false])) (pk (d+2) _ _ hh _ hh (VV (ba 3 false false .i64 eZ ((((j.af.g i0).off).length:Nat):Int))<|BB f0<|ZZ) k!) aE o! ⟨aB,bZ,cf,l!,(show ((0:Int)≤1) from o!)⟩ k!
def cF (j:cz):Nat→Nat→List Tl→List Bool→List Int→List Tl×List Bool×List Int
 | 0,_,Cg,bD,oN=>(Cg,bD,oN)
 | dz+1,i0,Cg,bD,oN=>cF j dz (i0+1) (Cg++[⟨(cS j i0 (((((j.af.g i0).off).length:Nat):Int) - 0).toNat 0 (ct ((j.af.g i0).ay)))⟩]) bD oN
theorem tg {d:Nat} {h:au} {gg0:au} (j:cz) (br:Nat) (dw:Nat) (pW:Nat) (pX:Nat) (bn:aS h j.ag j.af) (b8:aS h j.aj j.ab) (gU:aL.ok h j) (iy:∀r,r<j.af.length→(j.af.g r).off.length≤16∧∀q,q<(j.af.g r).off.length→0≤((j.af.g r).off.g q).a_∧((j.af.g r).off.g q).aN≤100000) (kr:j.af.length≤16) (rF:j.ab.length≤100000) (bW:Tidy h) (AQ:h.nx≤br) (Nj:h.nx≤dw) (ab1:h.nx≤pW) (ab2:h.nx≤pX) (xu:dw≠br) (Nk:pW≠br) (Nl:pW≠dw) (Nm:pX≠br) (Nn:pX≠dw) (No:pX≠pW) (NG0:h.nx≤gg0.nx) (K9:br<gg0.nx) (UL:dw<gg0.nx) (afa:pW<gg0.nx) (afb:pX<gg0.nx):∀(k_ i_:Nat) (Cg:List Tl) (bD:List Bool) (oN:List Int) (z0:AV) (_:i_+k_=j.af.length) (x:Nat→AV) (hh:au) (aE:Tidy hh) (aB:Has h hh) (jv:h.nx≤hh.nx) (mo:bD.length=j.ab.length) (K_:oN.length=j.ab.length) (bj:hh.get br=some (aM.cells [AV.aH,AV.aH,AV.aH,AV.aH,AV.aH] 93 false)) (dR:hh.get dw=some (aM.cells [j.aj,j.ag,(AV.slice pW 0 j.ab.length j.ab.length false),(AV.slice pX 0 j.ab.length j.ab.length false),z0] 93 false)) (zm:hh.get pW=some (aM.cells (bs bD) 4 false)) (zn:hh.get pX=some (aM.cells (zs .i64 oN) 3 false)) (PB:ni gg0 hh z0 Cg) (lz0:Cg.length≤i_) (BR:gg0.nx≤hh.nx),cg (σ:=List Tl×List Bool×List Int) (ρ:=Unit) (cR (d+2)) D_ ⟨((x 0)::(x 1)::(Pt br)::(Pt dw)::rx x 4 16 (j.ag::(Zn j.af.length)::(Zn i_)::rx x 23 26 [])),hh,[],.no⟩ (.exit 0) hh (fun r z y=>((y 0)::(y 1)::(Pt br)::(Pt dw)::rx y 4 16 (j.ag::(Zn j.af.length)::rx y 22 27 []))) (fun r z y=>((y 0)::(y 1)::(Pt br)::(Pt dw)::rx y 4 16 (j.ag::(Zn j.af.length)::rx y 22 27 []))) (fun r z hk=>Has h hk∧hk.get br=some (aM.cells [AV.aH,AV.aH,AV.aH,AV.aH,AV.aH] 93 false)∧hk.get dw=some (aM.cells [j.aj,j.ag,(AV.slice pW 0 j.ab.length j.ab.length false),(AV.slice pX 0 j.ab.length j.ab.length false),z] 93 false)∧hk.get pW=some (aM.cells (bs r.2.1) 4 false)∧hk.get pX=some (aM.cells (zs .i64 r.2.2) 3 false)∧r.2.1.length=j.ab.length∧r.2.2.length=j.ab.length∧ni gg0 hk z r.1∧r.1.length≤j.af.length) (fun r z hk=>Has h hk) (Sum.inl (cF j k_ i_ Cg bD oN))
 | 0,i0,Cg,bD,oN,z0,fX,x,hh,aE,aB,jv,mo,K_,bj,dR,zm,zn,PB,lz0,BR=>by
   have cm:=bn.small
   have eJ:=b8.small
   have je:=aE _ _ bj
   have FR:=aE _ _ dR
   have ab3:=aE _ _ zm
   have ab4:=aE _ _ zn
   have ro_:=iy i0
   have q1:(decide (((i0:Nat):Int)<((j.af.length:Nat):Int)))=false:=d!
   exact cg.out (Cg,bD,oN) z0 rfl (pk (d+2) _ _ hh _ hh (VV (ba 3 false false .i64 ((i0:Nat):Int) ((j.af.length:Nat):Int))<|BB q1<|ZZ) k!) aE o! ⟨aB,bj,dR,zm,zn,l!,l!,PB,(by first | omega | (simp<;>omega))⟩ k!
 | dz+1,i0,Cg,bD,oN,z0,fX,x,hh,aE,aB,jv,mo,K_,bj,dR,zm,zn,PB,lz0,BR=>by
   have cm:=bn.small
   have eJ:=b8.small
   have je:=aE _ _ bj
   have FR:=aE _ _ dR
   have ab3:=aE _ _ zm
   have ab4:=aE _ _ zn
   have ro_:=iy i0
   have q1:(decide (((i0:Nat):Int)<((j.af.length:Nat):Int)))=true:=d!
   obtain ⟨p3,q4,cX⟩:=bn.elem (i:=i0) o!
   have gv:bS env (some (.slice 41)) (some j.ag) (some (Zn i0))=some (AV.ptr p3 q4):=cX
   have g5:bh env hh 41 (AV.ptr p3 q4)=some (AV.agg [(AV.str ((j.af.g i0).name)),(Zi ((j.af.g i0).ay)),((j.af.g i0).cB)]):=(bn.has aB).load o! cX
   obtain ⟨h6,lx,jf,Eb,pV,cu⟩:=j_ aE (aM.cells [(AV.str []),(Zi 0),AV.aH] 41 false)
   have ia:Has h h6:=aB.trans cu
   have YC:Has hh h6:=cu
   have Np:AV.scalar ((j.af.g i0).cB)=true:=((bn.ok (i:=i0) o!).2).scalar
   obtain ⟨h7,ks,fQ,zl,fD,bI⟩:=qL (t:=41) (n:=3) (i:=hh.nx) (L:=[(AV.str ((j.af.g i0).name)),(Zi ((j.af.g i0).ay)),((j.af.g i0).cB)]) jf pV k! rfl rfl (by simp only[AV.cells,List.all_cons,List.all_nil,Bool.and_true,Bool.and_self,iO,fY,iP,iQ,eS,mg,mh,mi,mj,ml,iR,Np])
   have eL:Has h h7:=Has.ea ia bI bW o!
   have YD:Has hh h7:=Has.ea YC bI aE o!
   have aiD:=wq ((j.af.g i0).ay)
   have k9:=IE (d:=d+1) ((j.af.g i0).ay) fQ
   obtain ⟨tI,UM,mP,aaj,La,qu⟩:=j_ fQ (aM.cells (zs .i64 (List.replicate 324 0)) 148 false)
   have kY:Has h tI:=eL.trans qu
   have UN:Has hh tI:=YD.trans qu
   obtain ⟨Re,UJ,l_,Lb,gB,aak,ahs⟩:=Nh (t:=148) (b:=h7.nx) (L:=(ct ((j.af.g i0).ay))) mP k! La (by first | rfl | (rw[fB];first | omega | (simp only[List.length_set,List.length_replicate,vK]<;>omega))) l!
   have mQ:=gB.1
   have uS:Has h l_:=gB.has kY bW o!
   have UO:Has hh l_:=gB.has UN aE o!
   have ab5:b6 (some (.slice 74)) (some ((j.af.g i0).cB))=some (Zn (((j.af.g i0).off).length)):=((bn.ok (i:=i0) o!).2).len
   obtain ⟨afc,ab6,age,YE,YF,qv⟩:=mM mQ (gB.2.2 _ _ o! (qu _ _ fD))
   have Rf:Has h afc:=eU uS (by first | assumption | exact cU bW o!) qv
   have Nq:Has hh afc:=eU UO (by first | assumption | exact cU aE o!) qv
   obtain ⟨Lc,Ec,PC,CJ,zo,gG⟩:=mM ab6 ((qv _ o!).trans gB.2.1)
   have adN:Lc.get hh.nx=none:=(gG _ o!).trans YE
   have rG:Has h Lc:=eU Rf (by first | assumption | exact cU bW o!) gG
   have Nr:Has hh Lc:=eU Nq (by first | assumption | exact cU aE o!) gG
   obtain ⟨Rg,ai0,h15,YG,afd,aiE,xw,agf,YH,agh,afe⟩:=cg.n rfl (tf (d:=d) (h:=Lc) j i0 Re UJ br dw hh.nx h7.nx pW pX (bn.has rG) (((bn.ok (i:=i0) o!).2).has rG) ((bn.ok (i:=i0) o!).1) (aL.mono rG gU) (aL.mono rG (bn.ok (i:=i0) o!)) o! (by assumption) o! o! o! Ec (by assumption) (by assumption) o! (((((j.af.g i0).off).length:Nat):Int) - 0).toNat 0 (ct ((j.af.g i0).ay)) o! (show (((0:Int)≤1)∧(0≤0∧1≤((ct ((j.af.g i0).ay))).g 322∧((ct ((j.af.g i0).ay))).g 322≤1+2*0∧((ct ((j.af.g i0).ay))).g 0=0)) from o!) (fun k_=>(((x 0)::(x 1)::(Pt br)::(Pt dw)::(x 4)::(Pt hh.nx)::(Pt h7.nx)::rx x 7 13 (j.ag::(Zn j.af.length)::(Zn i0)::(AV.bool (decide (((i0:Nat):Int)<((j.af.length:Nat):Int))))::(AV.ptr p3 q4)::(AV.agg [(AV.str ((j.af.g i0).name)),(Zi ((j.af.g i0).ay)),((j.af.g i0).cB)])::(AV.ptr hh.nx 1)::(Zi ((j.af.g i0).ay))::(AV.agg (zs .i64 (ct ((j.af.g i0).ay))))::(AV.ptr hh.nx 2)::((j.af.g i0).cB)::(Zn (((j.af.g i0).off).length))::(Zi 0)::rx x 33 16 [])):List AV).getD k_ AV.undef) l_ mQ (zo.trans YF) o! l! (gB.2.2 _ _ o! (qu _ _ fD)) gB.2.1)
   have aff:Has h h15:=(rG.trans xw)
   have UP:Has hh h15:=(Nr.trans xw)
   have vX:bh env h15 148 (Pt h7.nx)=some (AV.agg (zs .i64 (cS j i0 (((((j.af.g i0).off).length:Nat):Int) - 0).toNat 0 (ct ((j.af.g i0).ay))))):=Rd k! k! YH o! l!
   obtain ⟨YI,afg,UQ,aiF,afh,Ed⟩:=j_ afd (aM.cells (zs .i64 (cS j i0 (((((j.af.g i0).off).length:Nat):Int) - 0).toNat 0 (ct ((j.af.g i0).ay)))) 148 false)
   have UR:Has h YI:=aff.trans Ed
   have US:Has hh YI:=UP.trans Ed
   have adO:Has h15 YI:=Ed
   obtain ⟨z22,Sr,ab7,UT,aal,Ld,ab8⟩:=ni.Yt (g:=gg0) (tys:= #[91,91]) (t:=(cS j i0 (((((j.af.g i0).off).length:Nat):Int) - 0).toNat 0 (ct ((j.af.g i0).ay)))) (L:=Cg) (z:=z0) (op:=false) UQ o! (ni.has PB US) afh l! o! rfl rfl k! k! (bytes:=2592) k! (z0:=AV.agg (zs .i64 (List.replicate 324 0))) k! rfl (by decide)
   have Le:Has h Sr:=Has.Nd UR bW o! Ld
   have ai1:AV.scalar z22=true:=(ni.scalar ab8)
   obtain ⟨h24,afi,afj,aiG,afk,Ee⟩:=ahd (t:=91) (i:=dw) (o:=4) (v:=z22) (N:=[j.aj,j.ag,(AV.slice pW 0 j.ab.length j.ab.length false),(AV.slice pX 0 j.ab.length j.ab.length false),z22]) UT (Ld _ _ o! (Ed _ _ (xw _ _ ((gG _ o!).trans ((qv _ o!).trans (gB.2.2 _ _ o! (qu _ _ (bI _ _ o! (cu _ _ dR))))))))) k! (ni.scalar ab8) k! k!
   have afl:Has h h24:=Has.ea Le Ee bW o!
   have u26:=fe 3 false true i0 1 o!
   exact cg.round (congrArg Sum.inl (by simp only[cF,cond_true,cond_false])) (pk (d+2) _ _ hh _ h24 (VV (ba 3 false false .i64 ((i0:Nat):Int) ((j.af.length:Nat):Int))<|BV q1 gv<|MM g5<|NN lx (fun i=>(Pt i))<|SS ks<|CC<|MM (aw 3 1 (Zi ((j.af.g i0).ay)) fD k!)<|EE k9<|NN UM (fun i=>(Pt i))<|SS Lb<|CC<|MM (aw 39 2 ((j.af.g i0).cB) (gB.2.2 _ _ o! (qu _ _ fD)) k!)<|VV ab5<|CC<|LL YG<|CC<|MM (aw 91 4 z0 (xw _ _ ((gG _ o!).trans ((qv _ o!).trans (gB.2.2 _ _ o! (qu _ _ (bI _ _ o! (cu _ _ dR))))))) k!)<|MM vX<|AA (.a (aM.cells (zs .i64 (cS j i0 (((((j.af.g i0).off).length:Nat):Int) - 0).toNat 0 (ct ((j.af.g i0).ay)))) 148 false) (AV.slice h15.nx 0 1 1 false) YI)<|HH afg<|HH (show ∃mk:Nat→AV,bsl 148 (cS j i0 (((((j.af.g i0).off).length:Nat):Int) - 0).toNat 0 (ct ((j.af.g i0).ay)))=some (aM.cells (zs .i64 (cS j i0 (((((j.af.g i0).off).length:Nat):Int) - 0).toNat 0 (ct ((j.af.g i0).ay)))) 148 false,mk)∧mk h15.nx=(AV.slice h15.nx 0 1 1 false) from ⟨_,abX l!,rfl⟩)<|PP (show dJ env YI #[91,91] z0 (AV.slice h15.nx 0 1 1 false)=some (z22,Sr) from ab7)<|CC<|SS afi<|VV u26<|CC<|ZZ) k!) o! _ k! (fun x=>tg j br dw pW pX bn b8 gU iy kr rF bW AQ Nj ab1 ab2 xu Nk Nl Nm Nn No NG0 K9 UL afa afb dz (i0+1) (Cg++[⟨(cS j i0 (((((j.af.g i0).off).length:Nat):Int) - 0).toNat 0 (ct ((j.af.g i0).ay)))⟩]) bD oN z22 o! x h24 afj afl o! l! l! (Ee _ _ o! (Ld _ _ o! (Ed _ _ (xw _ _ ((gG _ o!).trans ((qv _ o!).trans (gB.2.2 _ _ o! (qu _ _ (bI _ _ o! (cu _ _ bj)))))))))) afk (Ee _ _ o! (Ld _ _ o! (Ed _ _ (xw _ _ ((gG _ o!).trans ((qv _ o!).trans (gB.2.2 _ _ o! (qu _ _ (bI _ _ o! (cu _ _ zm)))))))))) (Ee _ _ o! (Ld _ _ o! (Ed _ _ (xw _ _ ((gG _ o!).trans ((qv _ o!).trans (gB.2.2 _ _ o! (qu _ _ (bI _ _ o! (cu _ _ zn)))))))))) (ni.kept ab8 Ee o!) (by first | omega | (simp<;>omega)) o!)
def aK (j:cz):List Tl×List Bool×List Int:=((cF j j.af.length 0 ([]) (List.replicate j.ab.length false) (List.replicate j.ab.length 0)).1,(cF j j.af.length 0 ([]) (List.replicate j.ab.length false) (List.replicate j.ab.length 0)).2.1,(cF j j.af.length 0 ([]) (List.replicate j.ab.length false) (List.replicate j.ab.length 0)).2.2)
theorem zp {d:Nat} {h:au} (j:cz) (bH:aL.ok h j) (lI:∀r,r<j.af.length→(j.af.g r).off.length≤16∧∀q,q<(j.af.g r).off.length→0≤((j.af.g r).off.g q).a_∧((j.af.g r).off.g q).aN≤100000) (oL:j.af.length≤16) (D2:j.ab.length≤100000) (bW:Tidy h):∃p s z g hk,cR (d+3) (.fn 37) [(AV.agg [j.aj,j.ag])] h= .ret (.agg [j.aj,j.ag,.slice p 0 j.ab.length j.ab.length false,.slice s 0 j.ab.length j.ab.length false,z]) hk∧bF h hk∧hk.get p=some (aM.cells (bs ((aK j).2.1)) 4 false)∧hk.get s=some (aM.cells (zs .i64 ((aK j).2.2)) 3 false)∧ni g hk z (aK j).1∧(aK j).2.1.length=j.ab.length∧(aK j).2.2.length=j.ab.length∧h.nx≤p∧h.nx≤s∧p≠s∧p<g.nx∧s<g.nx∧h.nx≤g.nx:=by
 have dP:=bH.1.small
 have dQ:=bH.2.small
 obtain ⟨h1,bM,cx,jc,aQ,cA⟩:=j_ bW (aM.cells [j.aj,j.ag] 25 false)
 have bt:Has h h1:=cA
 obtain ⟨h2,su,uQ,Yv,gq,my⟩:=j_ cx (aM.cells [AV.aH,AV.aH,AV.aH,AV.aH,AV.aH] 93 false)
 have kp:Has h h2:=bt.trans my
 have Ef:b6 (some (.slice 44)) (some j.aj)=some (Zn j.ab.length):=bH.1.len
 have mk4:yU env (some (.slice 4)) (some (Zn j.ab.length)) (some (Zn j.ab.length))=some (aM.cells (bT [(AV.bool false)] j.ab.length) 4 false,fun i=>AV.slice i 0 j.ab.length j.ab.length false):=pr (bytes:=1) (z:=(AV.bool false)) k! k! k! rfl (by decide) o!
 obtain ⟨h5,aht,lJ,aeY,Ri,Ns⟩:=j_ uQ (aM.cells (bT [(AV.bool false)] j.ab.length) 4 false)
 have gA:Has h h5:=kp.trans Ns
 have aam:h5.get h2.nx=some (aM.cells (bs (List.replicate j.ab.length false)) 4 false):=by have q:=Ri;rw[AN] at q;exact q
 have JG:b6 (some (.slice 44)) (some j.aj)=some (Zn j.ab.length):=bH.1.len
 have mk7:yU env (some (.slice 3)) (some (Zn j.ab.length)) (some (Zn j.ab.length))=some (aM.cells (bT [(Zi 0)] j.ab.length) 3 false,fun i=>AV.slice i 0 j.ab.length j.ab.length false):=pr (bytes:=8) (z:=(Zi 0)) k! k! k! rfl (by decide) o!
 obtain ⟨h8,ab9,qO,aca,dE,AT⟩:=j_ lJ (aM.cells (bT [(Zi 0)] j.ab.length) 3 false)
 have pc:Has h h8:=gA.trans AT
 have aan:h8.get h5.nx=some (aM.cells (zs .i64 (List.replicate j.ab.length 0)) 3 false):=by have q:=dE;rw[Iz] at q;exact q
 obtain ⟨h9,acb,nz,afm,YJ,zq⟩:=j_ qO (aM.cells [AV.aH,AV.aH,AV.aH,AV.aH,AV.aH] 93 false)
 have hZ:Has h h9:=pc.trans zq
 have afn:AV.scalar j.aj=true:=bH.1.scalar
 have afo:AV.scalar j.ag=true:=bH.2.scalar
 obtain ⟨tI,afp,mP,aaj,La,Eg⟩:=qL (t:=93) (n:=5) (i:=h8.nx) (L:=[j.aj,j.ag,(AV.slice h2.nx 0 j.ab.length j.ab.length false),(AV.slice h5.nx 0 j.ab.length j.ab.length false),AV.aH]) nz YJ k! rfl rfl (by simp only[AV.cells,List.all_cons,List.all_nil,Bool.and_true,Bool.and_self,iO,fY,iP,iQ,eS,mg,mh,mi,mj,ml,iR,afn,afo])
 have kY:Has h tI:=Has.ea hZ Eg bW o!
 have JH:AV.same 20 (AV.agg [j.aj,j.ag]) (AV.agg [j.aj,j.ag])=true:=fj 18 (oX bH.1.same (oX bH.2.same Ix))
 have JI:AV.same 20 j.aj j.aj=true:=bH.1.same 19
 have ahu:b6 (some (.slice 41)) (some j.ag)=some (Zn j.af.length):=bH.2.len
 obtain ⟨Rg,afq,Mo,zr,wk,aao,acd,YK,YL,YM,YN,agi,agj,PD,agk⟩:=cg.n rfl (tg (d:=d) (h:=h) (gg0:=tI) j h1.nx h8.nx h2.nx h5.nx bH.2 bH.1 bH (by assumption) o! o! bW o! o! o! o! o! o! o! o! o! o! o! o! o! o! o! j.af.length 0 ([]) (List.replicate j.ab.length false) (List.replicate j.ab.length 0) AV.aH o! (fun k_=>(((AV.agg [j.aj,j.ag])::(Pt h.nx)::(Pt h1.nx)::(Pt h8.nx)::AV.undef::AV.undef::AV.undef::AV.undef::AV.undef::(AV.agg [j.aj,j.ag])::(Pt h.nx)::j.aj::(Zn j.ab.length)::(AV.slice h2.nx 0 j.ab.length j.ab.length false)::(Pt h.nx)::j.aj::(Zn j.ab.length)::(AV.slice h5.nx 0 j.ab.length j.ab.length false)::(AV.agg [j.aj,j.ag,(AV.slice h2.nx 0 j.ab.length j.ab.length false),(AV.slice h5.nx 0 j.ab.length j.ab.length false),AV.aH])::(AV.ptr h.nx 1)::j.ag::(Zn j.af.length)::(Zi 0)::g4 26):List AV).getD k_ AV.undef) tI mP kY o! l! l! (Eg _ _ o! (zq _ _ (AT _ _ (Ns _ _ gq)))) La (Eg _ _ o! (zq _ _ (AT _ _ aam))) (Eg _ _ o! (zq _ _ aan)) (.inl ⟨rfl,rfl⟩) (Nat.zero_le _) o!)
 have wm:Has h Mo:=acd
 have ahv:AV.scalar Rg=true:=(ni.scalar PD)
 obtain ⟨Ac,K7,qq,aai,afr,IJ⟩:=qL (t:=93) (n:=5) (i:=h1.nx) (L:=[j.aj,j.ag,(AV.slice h2.nx 0 j.ab.length j.ab.length false),(AV.slice h5.nx 0 j.ab.length j.ab.length false),Rg]) wk YK k! rfl rfl (by simp only[AV.cells,List.all_cons,List.all_nil,Bool.and_true,Bool.and_self,iO,fY,iP,iQ,eS,mg,mh,mi,mj,ml,iR,afn,afo,ahv])
 have mn:Has h Ac:=Has.ea wm IJ bW o!
 have e:aK j=((cF j j.af.length 0 ([]) (List.replicate j.ab.length false) (List.replicate j.ab.length 0)).1,(cF j j.af.length 0 ([]) (List.replicate j.ab.length false) (List.replicate j.ab.length 0)).2.1,(cF j j.af.length 0 ([]) (List.replicate j.ab.length false) (List.replicate j.ab.length 0)).2.2):=by simp only[aK,cond_true,cond_false]
 rw[e]
 exact ⟨h2.nx,h5.nx,Rg,tI,ju rfl (BK (a:=2) (t:=93) (i:=h1.nx) Tryz.func37 IG rfl (.inr rfl) (pk (d+2) _ _ h _ Ac (NN bM (fun i=>(Pt i))<|NN su (fun i=>(Pt i))<|MM (aw 25 0 (AV.agg [j.aj,j.ag]) (my _ _ aQ) k!)<|CC<|MM (aw 22 0 j.aj (my _ _ aQ) k!)<|VV Ef<|KK mk4 aht<|CC<|MM (aw 22 0 j.aj (Ns _ _ (my _ _ aQ)) k!)<|VV JG<|KK mk7 ab9<|CC<|NN acb (fun i=>(Pt i))<|SS afp<|HH (aw 25 0 (AV.agg [j.aj,j.ag]) (zq _ _ (AT _ _ (Ns _ _ (my _ _ aQ)))) k!)<|HH JH<|HH (aw 22 0 j.aj (zq _ _ (AT _ _ (Ns _ _ (my _ _ aQ)))) k!)<|HH JI<|HH (show ∃o,h9.get h2.nx=some o∧aM.same o (aM.cells (bT [(AV.bool false)] j.ab.length) 4 false)=true from ⟨_,(zq _ _ (AT _ _ aam)),(by rw[←AN];exact G7 _ rfl _ _ _)⟩)<|HH (aw 22 0 j.aj (zq _ _ (AT _ _ (Ns _ _ (my _ _ aQ)))) k!)<|HH JI<|HH (show ∃o,h9.get h5.nx=some o∧aM.same o (aM.cells (bT [(Zi 0)] j.ab.length) 3 false)=true from ⟨_,(zq _ _ aan),(by rw[←Iz];exact G7 _ (aJ 19 _ _) _ _ _)⟩)<|HH (show ∃o,h9.get h8.nx=some o∧aM.same o (aM.cells [AV.aH,AV.aH,AV.aH,AV.aH,AV.aH] 93 false)=true from ⟨_,YJ,by simp [aM.same,ep,AV.same]⟩)<|HH (show nodup [h2.nx,h5.nx,h8.nx]=true from (by simp [nodup];omega))<|CC<|MM (aw 23 1 j.ag (Eg _ _ o! (zq _ _ (AT _ _ (Ns _ _ (my _ _ aQ))))) k!)<|VV ahu<|CC<|LL zr<|MM (aw 93 0 (AV.agg [j.aj,j.ag,(AV.slice h2.nx 0 j.ab.length j.ab.length false),(AV.slice h5.nx 0 j.ab.length j.ab.length false),Rg]) YL k!)<|SS K7<|ZZ) k!) k! (DV afr k!)) bW ⟨qq,mn,by omega⟩ (P:=fun hh=>hh.get h2.nx=some (aM.cells (bs ((cF j j.af.length 0 ([]) (List.replicate j.ab.length false) (List.replicate j.ab.length 0)).2.1)) 4 false)∧hh.get h5.nx=some (aM.cells (zs .i64 ((cF j j.af.length 0 ([]) (List.replicate j.ab.length false) (List.replicate j.ab.length 0)).2.2)) 3 false)∧ni tI hh Rg ((cF j j.af.length 0 ([]) (List.replicate j.ab.length false) (List.replicate j.ab.length 0)).1)∧((cF j j.af.length 0 ([]) (List.replicate j.ab.length false) (List.replicate j.ab.length 0)).2.1).length=j.ab.length∧((cF j j.af.length 0 ([]) (List.replicate j.ab.length false) (List.replicate j.ab.length 0)).2.2).length=j.ab.length∧h.nx≤h2.nx∧h.nx≤h5.nx∧h2.nx≠h5.nx∧h2.nx<tI.nx∧h5.nx<tI.nx∧h.nx≤tI.nx) ⟨(IJ _ _ o! YM),(IJ _ _ o! YN),(ni.kept PD IJ o!),l!,l!,by omega,by omega,by omega,by omega,by omega,by omega⟩ fun v=>(G6 (K8 v) o!).elim⟩
end Go.Proofs.aP
