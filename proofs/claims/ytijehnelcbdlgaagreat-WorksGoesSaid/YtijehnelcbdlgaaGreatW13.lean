import Derived.Test.YtijehnelcbdlgaaGreatW0
import Derived.Test.YtijehnelcbdlgaaGreatW1
import Derived.Test.YtijehnelcbdlgaaGreatW12
import Derived.Test.YtijehnelcbdlgaaGreatW3
import Derived.Test.YtijehnelcbdlgaaGreatW7
import Derived.Test.YtijehnelcbdlgaaGreatW2
import Derived.Test.YtijehnelcbdlgaaGreatW10
namespace Go.Proofs.aM
open Go.Proofs Ab
noncomputable section
set_option maxRecDepth 100000
set_option maxHeartbeats 4000000
set_option linter.unusedVariables false
set_option linter.unusedSimpArgs false
def wU:Code:=(Tryz.f136.body).getD .skip
theorem Z3:Tryz.f136.body=some wU:=by kernel_rfl
def zq:Code:=(bl wU).getD 0 .skip
def zr:Code:=(bl wU).getD 1 .skip
def aqs (n:Int) (P:Int→Int→Int):Unit:=()
theorem Z4 {d:Nat} {h:az} {g:FuncId} {cap:List AV} (n:Int) (P:Int→Int→Int) (nR:Int) (hP:∀x y:Int,(0≤x∧x<nR)→(0≤y∧y<nR)→∀hh,Tidy hh→Has h hh→cA d (.fn g) (.int .i64 x:: .int .i64 y::cap) hh= .ret (.int .i64 (P x y)) hh) (mf:n=0) (bM:Tidy h):cA (d+2) (.fn 136) [AV.aw,(Zi n),(AV.func g [] cap)] h= .ret (AV.tuple []) h:=by
 have q1:(decide (20≤n))=false:=d!
 have ur2:Ev env (cA (d+1)) zq ⟨(AV.aw::(Zi n)::(AV.func g [] cap)::aL::aL::aL::(Zi 20)::(Zi 0)::(Zi 20)::aL::(Zi 20)::iW 52),h,[],.no⟩ (.exit 0) ⟨(AV.aw::(Zi n)::(AV.func g [] cap)::aL::aL::aL::(Zi 20)::(Zi 0)::(Zi 20)::aL::(Zi 20)::(Zi 20)::(Zi n)::(AV.bool (decide (20≤n)))::iW 49),h,[],.no⟩:=Ev.to (pk (d+1) zq (AV.aw::(Zi n)::(AV.func g [] cap)::aL::aL::aL::(Zi 20)::(Zi 0)::(Zi 20)::aL::(Zi 20)::iW 52) h (.exit 0) h (CN 2<|VV (tx 3 false false .i64 20 n)<|BB q1<|ZZ) k!) k!
 have k3:=aec (d:=d) 0 n P nR (fun x y r1 r2 hh yy aa=>hP x y r1 r2 hh yy aa) (by first | omega | assumption) (by first | omega | assumption) bM
 have q4:(decide (20<n))=false:=d!
 have ur5:Ev env (cA (d+1)) zr ⟨(AV.aw::(Zi n)::(AV.func g [] cap)::aL::aL::aL::(Zi 20)::(Zi 0)::(Zi 20)::aL::(Zi 20)::(Zi 20)::(Zi n)::(AV.bool (decide (20≤n)))::aL::aL::aL::aL::aL::aL::aL::aL::aL::AV.aw::(Zi 0)::(Zi n)::(AV.func g [] cap)::(AV.tuple [])::iW 35),h,[],.no⟩ (.exit 2) ⟨(AV.aw::(Zi n)::(AV.func g [] cap)::aL::aL::aL::(Zi 20)::(Zi 0)::(Zi 20)::aL::(Zi 20)::(Zi 20)::(Zi n)::(AV.bool (decide (20≤n)))::aL::aL::aL::aL::aL::aL::aL::aL::aL::AV.aw::(Zi 0)::(Zi n)::(AV.func g [] cap)::(AV.tuple [])::(Zi 20)::(Zi n)::(AV.bool (decide (20<n)))::iW 32),h,[],.no⟩:=Ev.to (pk (d+1) zr (AV.aw::(Zi n)::(AV.func g [] cap)::aL::aL::aL::(Zi 20)::(Zi 0)::(Zi 20)::aL::(Zi 20)::(Zi 20)::(Zi n)::(AV.bool (decide (20≤n)))::aL::aL::aL::aL::aL::aL::aL::aL::aL::AV.aw::(Zi 0)::(Zi n)::(AV.func g [] cap)::(AV.tuple [])::iW 35) h (.exit 2) h (CN 2<|VV (bE 3 false false .i64 20 n)<|BB q4<|ZZ) k!) k!
 exact aG rfl (aY Tryz.func136 Z3 rfl (.inl rfl) (pk (d+1) _ _ h _ h (CN 4<|LL (show Ev env (cA (d+1)) (.loop zq) ⟨(AV.aw::(Zi n)::(AV.func g [] cap)::aL::aL::aL::(Zi 20)::(Zi 0)::(Zi 20)::aL::(Zi 20)::iW 52),h,[],.no⟩ (.exit 0) ⟨(AV.aw::(Zi n)::(AV.func g [] cap)::aL::aL::aL::(Zi 20)::(Zi 0)::(Zi 20)::aL::(Zi 20)::(Zi 20)::(Zi n)::(AV.bool (decide (20≤n)))::iW 49),h,[],.no⟩ from (Ev.out ur2))<|CN 4<|EE k3<|LL (show Ev env (cA (d+1)) (.loop zr) ⟨(AV.aw::(Zi n)::(AV.func g [] cap)::aL::aL::aL::(Zi 20)::(Zi 0)::(Zi 20)::aL::(Zi 20)::(Zi 20)::(Zi n)::(AV.bool (decide (20≤n)))::aL::aL::aL::aL::aL::aL::aL::aL::aL::AV.aw::(Zi 0)::(Zi n)::(AV.func g [] cap)::(AV.tuple [])::iW 35),h,[],.no⟩ (.exit 2) ⟨(AV.aw::(Zi n)::(AV.func g [] cap)::aL::aL::aL::(Zi 20)::(Zi 0)::(Zi 20)::aL::(Zi 20)::(Zi 20)::(Zi n)::(AV.bool (decide (20≤n)))::aL::aL::aL::aL::aL::aL::aL::aL::aL::AV.aw::(Zi 0)::(Zi n)::(AV.func g [] cap)::(AV.tuple [])::(Zi 20)::(Zi n)::(AV.bool (decide (20<n)))::iW 32),h,[],.no⟩ from (Ev.out ur5))<|ZZ) k!) k!) (Has.refl _) rfl
def SH:Code:=(Tryz.f85.body).getD .skip
theorem aed:Tryz.f85.body=some SH:=by kernel_rfl
def asP (P:Int→Int→Int):Unit:=()
theorem aee {d:Nat} {h:az} {g:FuncId} {cap:List AV} (P:Int→Int→Int) (nR:Int) (hP:∀x y:Int,(0≤x∧x<nR)→(0≤y∧y<nR)→∀hh,Tidy hh→Has h hh→cA d (.fn g) (.int .i64 x:: .int .i64 y::cap) hh= .ret (.int .i64 (P x y)) hh) (bM:Tidy h):cA (d+3) (.fn 85) [AV.aw,(AV.func g [] cap)] h= .ret (AV.tuple []) h:=by
 have k1:=Z4 (d:=d) 0 P nR (fun x y r1 r2 hh yy aa=>hP x y r1 r2 hh yy aa) (by first | omega | assumption) bM
 exact aG rfl (aY Tryz.func85 aed rfl (.inl rfl) (pk (d+2) _ _ h _ h (CN 4<|EE k1<|ZZ) k!) k!) (Has.refl _) rfl
def Kp (z:AV) (h h':az):Prop:=∀i o,ek z i→h.get i=some o→h'.get i=some o
theorem eG.vF {t:TypeId} {e h:az} {z:AV} {L:List AV} {i:Nat} (oz:eG t e h z L) (hi:i<e.nx):ek z i:=fun o n c b q=>by
 rcases oz with ⟨rfl,_⟩ | ⟨_,p,op,rfl,hp,_⟩
 · cases q
 · injection q with q1;omega
theorem Kp.has {t:TypeId} {M e h h':az} {z:AV} {L:List AV} (k:Kp z h h') (oz:eG t e h z L) (y:Tidy M) (a:Has M h) (n:M.nx≤e.nx):Has M h':=fun i x g=>k i x (oz.vF (by have:=y i x g;omega)) (a i x g)
theorem alF {d:Nat} {e h:az} {z:AV} {g:FuncId} {cap:List AV} (L:List Int) (P:Int→Int→Int) (nR:Int)
 (hP:∀x y:Int,(0≤x∧x<nR)→(0≤y∧y<nR)→∀hh,Tidy hh→Kp z h hh→cA d (.fn g) (.int .i64 x:: .int .i64 y::cap) hh= .ret (.int .i64 (P x y)) hh)
 (bM:Tidy h) (oz:eG 3 e h z (zs .i64 L)) (l19:(L.length:Int)≤19) (hR:∀q:Nat,q<L.length→0≤L.g q∧L.g q<nR):
 ∃h1,cA (d+3) (.fn 85) [z,.func g [] cap] h= .ret (.tuple []) h1∧Tidy h1∧h.nx≤h1.nx∧eG 3 e h1 z (zs .i64 (nX L P))∧(nX L P).length=L.length∧Kp z h h1:=by
 rcases oz with ⟨rfl,hz⟩ | ⟨hn,p,op,rfl,hp,hg⟩
 · have e0:L=[]:=by cases L with
    | nil=>rfl
    | cons a l=>cases hz
   subst e0
   exact ⟨h,aee P nR (fun x y r1 r2 hh yy aa=>hP x y r1 r2 hh yy (fun i o _ q=>aa i o q)) bM,bM,jR _,.inl ⟨rfl,rfl⟩,rfl,fun _ _ _ q=>q⟩
 · obtain ⟨hw,asQ,aur,ao0,ao1,ao2⟩:=dI bM hg
   have hl:(zs .i64 L).length=L.length:=List.length_map _
   rw[hl] at hP ⊢
   have kk:∀h1,Has hw h1→Kp (.slice p 0 L.length L.length op) h h1:=fun h1 a i o hi q=>a _ _ ((ao2 i (fun c=>hi 0 L.length L.length op (by rw[c]))).trans q)
   obtain ⟨h1,k1,y1,m1,ah1,g1,l1⟩:=ahh (d:=d) (dataF:=op) (h:=hw) (dataN:=L.length) L P nR (fun x y r1 r2 hh yy aa=>hP x y r1 r2 hh yy (kk hh aa)) hg rfl ao0 l19 hR asQ bM ao1 o!
   refine ⟨h1,k1,y1,m1,.inr ⟨fun c=>hn ?_,p,op,?_,hp,g1⟩,l1,kk h1 ah1⟩
   · have:=congrArg List.length c
     rw[zs,List.length_map,l1] at this
     exact List.length_eq_zero_iff.1 (by rw[hl];exact this)
   · rw[show (zs .i64 (nX L P)).length=L.length from by rw[zs,List.length_map,l1]]
theorem SI {a:Int} {P:Int→Int→Int} {n:Int} (ha:0≤a):∀(k:Nat) (v:Int) (L:List Int),v<(L.length:Int)→(∀q:Nat,q<L.length→0≤L.g q∧L.g q<n)→(gT a P k v L).length=L.length∧∀q:Nat,q<(gT a P k v L).length→0≤(gT a P k v L).g q∧(gT a P k v L).g q<n
 | 0,v,L,hv,h=>⟨rfl,h⟩
 | k+1,v,L,hv,h=>by
  rw[gT]
  by_cases c:a<v
  · rw[eV c,ao]
    by_cases e:P (L.g v.toNat) (L.g (Int.toNat (v - 1)))<0
    · rw[eV e,ao]
      have i:=SI ha (P:=P) (n:=n) k (v - 1) ((L.set v.toNat (L.g (Int.toNat (v - 1)))).set (Int.toNat (v - 1)) (L.g v.toNat)) (by rw[List.length_set,List.length_set];omega) (tT (tT h (h _ o!).1 (h _ o!).2) (h _ o!).1 (h _ o!).2)
      rw[List.length_set,List.length_set] at i
      exact i
    · rw[fL e,ai];exact ⟨rfl,h⟩
  · rw[fL c,ai];exact ⟨rfl,h⟩
theorem SJ {a b:Int} {P:Int→Int→Int} {n:Int} (ha:0≤a):∀(k:Nat) (v:Int) (L:List Int),b≤(L.length:Int)→(∀q:Nat,q<L.length→0≤L.g q∧L.g q<n)→∀q:Nat,q<(lf a P b k v L).length→0≤(lf a P b k v L).g q∧(lf a P b k v L).g q<n
 | 0,v,L,hv,h=>h
 | k+1,v,L,hv,h=>by
  rw[lf]
  by_cases c:v<b
  · rw[eV c,ao]
    have i:=SI ha (P:=P) (n:=n) v.toNat v L o! h
    exact SJ ha k (v+1) _ (by rw[i.1];exact hv) i.2
  · rw[fL c,ai];exact h
theorem XI {L:List Int} {P:Int→Int→Int} {n:Int} (h:∀q:Nat,q<L.length→0≤L.g q∧L.g q<n):∀q:Nat,q<(nX L P).length→0≤(nX L P).g q∧(nX L P).g q<n:=by
 rw[nX,zo,GP]
 exact SJ (Int.le_refl _) _ _ L (Int.le_refl _) h
theorem lU {p:Prop} (h:p:=by first | omega | exact du.1 | exact ⟨(Kx a! du.2.2.2.2 o! o! o! o! o! o! du.1.2.1).2.le o!,(Kx a! du.2.2.2.2 o! o! o! o! o! o! du.1.2.1).1,du.1.2.2⟩ | exact ⟨⟨(Kx a! du.2.2.2.2 o! o! o! o! o! o! du.1.2.1).2.le o!,(Kx a! du.2.2.2.2 o! o! o! o! o! o! du.1.2.1).1,du.1.2.2⟩,by omega,by omega,by omega,(Kx a! du.2.2.2.2 o! o! o! o! o! o! du.1.2.1).2⟩ | exact ⟨du.1.1,du.1.2.1,Ky du.1.2.2.1 o! o!,(by rw[List.length_append,List.length_singleton];omega)⟩ | exact ⟨⟨du.1.1,du.1.2.1,Ky du.1.2.2.1 o! o!,(by rw[List.length_append,List.length_singleton];omega)⟩,by omega,by omega,(by rw[List.length_append,List.length_singleton];omega),du.2.2.2.2.up⟩):p:=h
theorem bJ {p:Prop} (h:p:=by first | omega | assumption | exact (OT j).ro | exact (OT j).nr | exact Nat.le_trans (OT j).nt (by decide) | exact (OT j).uf o! | exact (OT j).ud _ o! | exact (OT j).tk | exact ((OT j).tk _ o!).1 | exact fun q hq=>by have u_:=(OT j).ur _ o! q hq;have:=du.2.2.2.2.1;omega | exact fun q hq=>by have u_:=(OT j).ur _ o! q hq;exact (du.2.2.2.2.ok o! o!).1):p:=h
theorem cN {p:Prop} (h:p:=by first | omega | (simp only[List.length_set,List.length_replicate,dQ]<;>omega) | exact hJ _ | exact ku a!):p:=h
theorem mY {p:Prop} (h:p:=by first | assumption | exact iZ bM o!):p:=h
theorem oM {p:Prop} (h:p:=by first | omega | (simp<;>omega)):p:=h
def GR:Code:=(Tryz.f36.body).getD .skip
theorem aef:Tryz.f36.body=some GR:=by kernel_rfl
def Vt:Code:=(bl GR).getD 0 .skip
def bW (j:bP) (aj:List Int) (now:Int) (ah:Int):Nat→List Int→Int→List Bool→List Int→List Tl→List Int×List Bool×List Int×List Tl
 | 0,cR,bm,ba,cG,cW=>(cR,ba,cG,cW)
 | dx+1,cR,bm,ba,cG,cW=>(bif (decide (bm<((j.ab.length:Nat):Int))) then (bif (decide ((aj.g bm.toNat)<now)) then (bif (!(fi (j.ab.g bm.toNat).aB (fun y=>qx y ah))) then bW j aj now ah dx cR (bm+1) (di j ba cG cW bm (aj.g bm.toNat)).1 (di j ba cG cW bm (aj.g bm.toNat)).2.1 (di j ba cG cW bm (aj.g bm.toNat)).2.2 else (bif (decide ((dk j aj bm)≤now)) then bW j aj now ah dx cR (bm+1) (di j ba cG cW bm (aj.g bm.toNat)).1 (di j ba cG cW bm (aj.g bm.toNat)).2.1 (di j ba cG cW bm (aj.g bm.toNat)).2.2 else bW j aj now ah dx (cR++[bm]) (bm+1) ba cG cW)) else bW j aj now ah dx (cR++[bm]) (bm+1) ba cG cW) else (cR,ba,cG,cW))
theorem qZ {d:Nat} {h:az} {gg0:az} (now:Int) (j:bP) (aJ:AV) (ah:Int) (Hw:Bool) (aj:List Int) (bj:Nat) (cg:Nat) (gF:Nat) (gM:Nat) (iV:Nat) (ra:Nat) (sj:Nat) (bp:aO h j.au j.ab) (cC:aO h j.ar j.af) (dq:bT h .i64 3 aJ aj) (fI:aK.ok h j) (fU:cE j) (iB:aj.length=j.ab.length) (mO:j.ab.length≤19) (nI:0<j.af.length) (o8:∀i,i<aj.length→0≤aj.g i∧aj.g i+(j.ab.g i).takes≤100000) (qF:0≤now) (yL:now≤100000) (bM:Tidy h) (tC:h.nx≤bj) (C5:h.nx≤cg) (Lp:h.nx≤gF) (Lq:h.nx≤gM) (Y4:h.nx≤iV) (ahi:h.nx≤ra) (ahj:h.nx≤sj) (o_:cg≠bj) (uA:gF≠bj) (uC:gF≠cg) (uD:gM≠bj) (uE:gM≠cg) (uF:gM≠gF) (E5:iV≠bj) (E6:iV≠cg) (E7:iV≠gF) (E8:iV≠gM) (PC:ra≠bj) (PD:ra≠cg) (PE:ra≠gF) (PF:ra≠gM) (PG:ra≠iV) (PH:sj≠bj) (PI:sj≠cg) (PJ:sj≠gF) (PK:sj≠gM) (PL:sj≠iV) (PM:sj≠ra) (NG0:h.nx≤gg0.nx) (AF:bj<gg0.nx) (Gv:cg<gg0.nx) (MJ:gF<gg0.nx) (MK:gM<gg0.nx) (XJ:iV<gg0.nx) (XK:ra<gg0.nx) (XL:sj<gg0.nx):∀(k_:Nat) (cR:List Int) (bm:Int) (ba:List Bool) (cG:List Int) (cW:List Tl) (z0:AV) (_:((j.ab.length:Nat):Int) - bm≤(k_:Int)) (_:((QI j (j.ab.length:Int) (cW)∧(∀ii,ii<(cG).length→0≤(cG).g ii∧(cG).g ii+(j.ab.g ii).takes≤100000)∧(∀q:Nat,q<cR.length→0≤cR.g q∧cR.g q<(j.ab.length:Int))∧cR.length≤19)∧(0≤bm∧bm≤(j.ab.length:Int)∧(cR.length:Int)≤bm∧QI j bm (cW)))) (x:Nat→AV) (hh:az) (aF:Tidy hh) (aA:Has h hh) (fN:h.nx≤hh.nx) (kc:ba.length=j.ab.length) (yI:cG.length=j.ab.length) (GA:cW.length=((ay j).1.length)) (br:hh.get bj=some (aN.cells [j.au,j.ar] 25 false)) (dA:hh.get cg=some (aN.cells [aJ] 26 false)) (mg:hh.get gF=some (aN.cells [(Zi ah)] 3 false)) (lk:hh.get gM=some (aN.cells [j.au,j.ar,(AV.slice iV 0 j.ab.length j.ab.length false),(AV.slice ra 0 j.ab.length j.ab.length false),(AV.slice sj 0 (ay j).1.length (ay j).1.length Hw)] 103 false)) (r_:hh.get iV=some (aN.cells (bs ba) 4 false)) (KF:hh.get ra=some (aN.cells (zs .i64 cG) 3 false)) (KG:hh.get sj=some (aN.cells (kL cW) 156 false)) (Je:eG 3 gg0 hh z0 (zs .i64 cR)) (lz0:cR.length≤1000000000) (yJ:gg0.nx≤hh.nx),bY (σ:=List Int×List Bool×List Int×List Tl) (ρ:=Unit) (cA (d+8)) Vt ⟨((x 0)::(x 1)::(Zi now)::(x 3)::(Pt bj)::(Pt cg)::(x 6)::(Pt gF)::(x 8)::(x 9)::(Pt gM)::z0::rx x 12 6 (j.au::(Zn j.ab.length)::(Zi bm)::rx x 21 47 [])),hh,[],.no⟩ (.exit 0) hh (fun r z y=>((y 0)::(y 1)::(Zi now)::(y 3)::(Pt bj)::(Pt cg)::(y 6)::(Pt gF)::(y 8)::(y 9)::(Pt gM)::z::rx y 12 6 (j.au::(Zn j.ab.length)::rx y 20 48 []))) (fun r z y=>((y 0)::(y 1)::(Zi now)::(y 3)::(Pt bj)::(Pt cg)::(y 6)::(Pt gF)::(y 8)::(y 9)::(Pt gM)::rx y 11 7 (j.au::(Zn j.ab.length)::rx y 20 48 []))) (fun r z hk=>Has h hk∧hk.get bj=some (aN.cells [j.au,j.ar] 25 false)∧hk.get cg=some (aN.cells [aJ] 26 false)∧hk.get gF=some (aN.cells [(Zi ah)] 3 false)∧hk.get gM=some (aN.cells [j.au,j.ar,(AV.slice iV 0 j.ab.length j.ab.length false),(AV.slice ra 0 j.ab.length j.ab.length false),(AV.slice sj 0 (ay j).1.length (ay j).1.length Hw)] 103 false)∧hk.get iV=some (aN.cells (bs r.2.1) 4 false)∧hk.get ra=some (aN.cells (zs .i64 r.2.2.1) 3 false)∧hk.get sj=some (aN.cells (kL r.2.2.2) 156 false)∧r.2.1.length=j.ab.length∧r.2.2.1.length=j.ab.length∧r.2.2.2.length=((ay j).1.length)∧(QI j (j.ab.length:Int) (r.2.2.2)∧(∀ii,ii<(r.2.2.1).length→0≤(r.2.2.1).g ii∧(r.2.2.1).g ii+(j.ab.g ii).takes≤100000)∧(∀q:Nat,q<r.1.length→0≤r.1.g q∧r.1.g q<(j.ab.length:Int))∧r.1.length≤19)∧eG 3 gg0 hk z (zs .i64 r.1)∧r.1.length≤1000000000) (fun r z hk=>Has h hk) (Sum.inl (bW j aj now ah k_ cR bm ba cG cW))
 | 0,cR,bm,ba,cG,cW,z0,eZ,du,x,hh,aF,aA,fN,kc,yI,GA,br,dA,mg,lk,r_,KF,KG,Je,lz0,yJ=>by
  have q1:(decide (bm<((j.ab.length:Nat):Int)))=false:=d!
  exact bY.out (cR,ba,cG,cW) z0 rfl (pk (d+8) _ _ hh _ hh (VV (bE 3 false false .i64 bm ((j.ab.length:Nat):Int))<|BB q1<|ZZ) k!) aF o! ⟨aA,br,dA,mg,lk,r_,KF,KG,cN,cN,cN,(show (QI j (j.ab.length:Int) (cW)∧(∀ii,ii<(cG).length→0≤(cG).g ii∧(cG).g ii+(j.ab.g ii).takes≤100000)∧(∀q:Nat,q<cR.length→0≤cR.g q∧cR.g q<(j.ab.length:Int))∧cR.length≤19) from lU),Je,oM⟩ k!
 | dx+1,cR,bm,ba,cG,cW,z0,eZ,du,x,hh,aF,aA,fN,kc,yI,GA,br,dA,mg,lk,r_,KF,KG,Je,lz0,yJ=>by
  have gN:=bp.small
  have mw:=cC.small
  have sX:=dq.small
  have tD:=aF _ _ br
  have Lr:=aF _ _ dA
  have agi:=aF _ _ mg
  have agj:=aF _ _ lk
  have an3:=aF _ _ r_
  have au1:=aF _ _ KF
  have au2:=aF _ _ KG
  have ks_:=o8 bm.toNat
  have kt_:=fU.tk bm.toNat
  have ei:=fun {al ps} (k:Pk al _ ps)=>(VV (bE 3 false false .i64 bm ((j.ab.length:Nat):Int))<|k:Pk _ [] ps)
  rcases bu (decide (bm<((j.ab.length:Nat):Int))) with f0 | f0
  · have ja:=jv f0
    obtain ⟨p3,q4,mu⟩:=bp.elem (i:=bm.toNat) o!
    have gh:=xn mu o!
    have kN:=(bp.has aA).load o! mu
    obtain ⟨h6,kV,ig,uz,jc,bB⟩:=gQ aF (aN.cells [(AV.str []),(Zi 0),AV.aw,AV.aw] 48 false)
    have gL:=aA.trans bB
    have mR:=bB
    have C6:=((bp.ok (i:=bm.toNat) o!).2.1).scalar
    have MQ:=((bp.ok (i:=bm.toNat) o!).2.2).scalar
    obtain ⟨h7,jw,dM,r5,dS,aX⟩:=j_ (t:=48) (n:=4) (i:=hh.nx) (L:=[(AV.str (j.ab.g bm.toNat).name),(Zi (j.ab.g bm.toNat).takes),(j.ab.g bm.toNat).bh,(j.ab.g bm.toNat).bo]) ig jc k! rfl rfl (kJ rfl (kJ rfl (kJ C6 (kJ MQ rfl))))
    have cV:=Has.bK gL aX bM o!
    have gA:=Has.bK mR aX aF o!
    have YJ:=xA (d:=d+6) (j.ab.g bm.toNat).aB (fun y=>qx y ah) ((bp.ok (i:=bm.toNat) o!).2.2.has cV) (fun y hy hh yy aa=>ZY (d:=d+5) y ah gF (aK.mono aa (((bp.ok (i:=bm.toNat) o!).2.2.has cV).Te y hy)) (aa _ _ (aX _ _ o! (bB _ _ mg))) yy) dM
    obtain ⟨p12,q13,AY,_⟩:=dq.elem (i:=bm.toNat) o!
    have sa:=xn AY o!
    have rE:=(dq.has cV).load o! AY
    have gK:=fun {al ps} (k:Pk al _ ps)=>(ei<|BC f0<|VV gh<|MM kN<|NN kV (fun i=>(Pt i))<|CC<|SS jw<|CC<|MM (aP 46 3 (j.ab.g bm.toNat).bo dS k!)<|CC<|EE YJ<|CC<|MM (aP 26 0 aJ (aX _ _ o! (bB _ _ dA)) k!)<|CC<|VV sa<|MM rE<|CC<|VV (bE 3 false false .i64 (aj.g bm.toNat) now)<|CC<|k:Pk _ [] ps)
    rcases bu (decide ((aj.g bm.toNat)<now)) with f1 | f1
    · have eB:=jv f1
      rcases bu (!(fi (j.ab.g bm.toNat).aB (fun y=>qx y ah))) with f2 | f2
      · obtain ⟨p18,q19,aiV,_⟩:=dq.elem (i:=bm.toNat) o!
        have Zh:=xn aiV o!
        have Ol:=(dq.has cV).load o! aiV
        obtain ⟨ao3,Vu,ahk,PQ,PS,mc⟩:=dI dM (aX _ _ o! (bB _ _ r_))
        have Vv:=bL cV mY mc
        obtain ⟨Zy,J8,Xp,DN,DO,jN⟩:=dI Vu ((mc _ o!).trans (aX _ _ o! (bB _ _ KF)))
        have FP:Zy.get iV=none:=(jN _ o!).trans PQ
        have FB:=bL Vv mY jN
        obtain ⟨Zz,J9,Xq,DP,DQ,ia⟩:=dI J8 ((jN _ o!).trans ((mc _ o!).trans (aX _ _ o! (bB _ _ KG))))
        have FC:Zz.get iV=none:=(ia _ o!).trans FP
        have Z5:Zz.get ra=none:=(ia _ o!).trans DN
        have FD:=bL FB mY ia
        obtain ⟨h24,ao4,Rr,aus,wV,ahl,aqt,ahm,aqu,ahn,aqv⟩:=HU (d:=d+5) (h:=Zz) (pqN:=j.ab.length) (sqN:=j.ab.length) (tqN:=((ay j).1.length)) (tqF:=Hw) j ba cG cW bm (aj.g bm.toNat) (aK.mono FD fI) (aX _ _ o! (bB _ _ r_)) cN FC (aX _ _ o! (bB _ _ KF)) cN Z5 (aX _ _ o! (bB _ _ KG)) cN DP bJ bJ bJ bJ bJ bJ bJ bJ bJ bJ o! o! o! J9 dM (DQ.trans (DO.trans PS)) o!
        have asR:=Dk j ba cG cW bm (aj.g bm.toNat) bJ bJ bJ bJ
        have ab5:=(FD.trans wV)
        have c25:AV.same 20 (AV.agg [j.au,j.ar,(AV.slice iV 0 j.ab.length j.ab.length false),(AV.slice ra 0 j.ab.length j.ab.length false),(AV.slice sj 0 (ay j).1.length (ay j).1.length Hw)]) (AV.agg [j.au,j.ar,(AV.slice iV 0 j.ab.length j.ab.length false),(AV.slice ra 0 j.ab.length j.ab.length false),(AV.slice sj 0 (ay j).1.length (ay j).1.length Hw)])=true:=dK 18 (kK bp.same (kK cC.same (kK (fun n=>by simp [AV.same]) (kK (fun n=>by simp [AV.same]) (kK (fun n=>by simp [AV.same]) CK)))))
        have c26:=dq.same 19
        have w27:IntKind.i64.wrap (bm+1)=bm+1:=wrap_i64 o! o!
        exact bY.round (congrArg Sum.inl (by simp only[bW,f0,f1,f2,ao,ai])) (pk (d+8) _ _ hh _ h24 (gK<|BC f1<|BC f1<|BC f1<|BB f2<|BB f2<|BB f2<|BB f2<|BB f2<|BB f2<|BV f1 (tR true f2)<|VV (tp true false f1)<|TT<|MM (aP 103 0 (AV.agg [j.au,j.ar,(AV.slice iV 0 j.ab.length j.ab.length false),(AV.slice ra 0 j.ab.length j.ab.length false),(AV.slice sj 0 (ay j).1.length (ay j).1.length Hw)]) (aX _ _ o! (bB _ _ lk)) k!)<|CC<|MM (aP 26 0 aJ (aX _ _ o! (bB _ _ dA)) k!)<|CC<|VV Zh<|MM Ol<|EE ao4<|HH (aP 103 0 (AV.agg [j.au,j.ar,(AV.slice iV 0 j.ab.length j.ab.length false),(AV.slice ra 0 j.ab.length j.ab.length false),(AV.slice sj 0 (ay j).1.length (ay j).1.length Hw)]) (aX _ _ o! (bB _ _ lk)) k!)<|HH c25<|HH (aP 26 0 aJ (aX _ _ o! (bB _ _ dA)) k!)<|HH c26<|HH Ol<|HH (show AV.same 20 (Zi (aj.g bm.toNat)) (Zi (aj.g bm.toNat))=true from aS 19 _ _)<|VV (qE 3 false true w27)<|CC<|ZZ) k!) o! _ k! (fun x=>qZ now j aJ ah Hw aj bj cg gF gM iV ra sj bp cC dq fI fU iB mO nI o8 qF yL bM tC C5 Lp Lq Y4 ahi ahj o_ uA uC uD uE uF E5 E6 E7 E8 PC PD PE PF PG PH PI PJ PK PL PM NG0 AF Gv MJ MK XJ XK XL dx cR (bm+1) (di j ba cG cW bm (aj.g bm.toNat)).1 (di j ba cG cW bm (aj.g bm.toNat)).2.1 (di j ba cG cW bm (aj.g bm.toNat)).2.2 z0 lU (show ((QI j (j.ab.length:Int) (di j ba cG cW bm (aj.g bm.toNat)).2.2∧(∀ii,ii<((di j ba cG cW bm (aj.g bm.toNat)).2.1).length→0≤((di j ba cG cW bm (aj.g bm.toNat)).2.1).g ii∧((di j ba cG cW bm (aj.g bm.toNat)).2.1).g ii+(j.ab.g ii).takes≤100000)∧(∀q:Nat,q<cR.length→0≤cR.g q∧cR.g q<(j.ab.length:Int))∧cR.length≤19)∧(0≤(bm+1)∧(bm+1)≤(j.ab.length:Int)∧(cR.length:Int)≤(bm+1)∧QI j (bm+1) (di j ba cG cW bm (aj.g bm.toNat)).2.2)) from lU) x h24 Rr ab5 o! cN cN cN (wV _ _ ((ia _ o!).trans ((jN _ o!).trans ((mc _ o!).trans (aX _ _ o! (bB _ _ br)))))) (wV _ _ ((ia _ o!).trans ((jN _ o!).trans ((mc _ o!).trans (aX _ _ o! (bB _ _ dA)))))) (wV _ _ ((ia _ o!).trans ((jN _ o!).trans ((mc _ o!).trans (aX _ _ o! (bB _ _ mg)))))) (wV _ _ ((ia _ o!).trans ((jN _ o!).trans ((mc _ o!).trans (aX _ _ o! (bB _ _ lk)))))) ahl ahm ahn (eG.has (eG.wo (eG.wo (eG.wo (Je.has gA) mc o!) jN o!) ia o!) wV) oM o!)
      · have k17:=qe (d:=d+7) j aj bm (aK.mono cV fI) (dq.has cV) bJ bJ bJ dM
        have n9:=fun {al ps} (k:Pk al _ ps)=>(gK<|BC f1<|BC f1<|BC f1<|BM f2 (aP 25 0 (AV.agg [j.au,j.ar]) (aX _ _ o! (bB _ _ br)) k!)<|BM f2 (aP 26 0 aJ (aX _ _ o! (bB _ _ dA)) k!)<|BC f2<|BB f2<|EE k17<|BC f2<|BV f2 (tx 3 false false .i64 (dk j aj bm) now)<|BV f1 (dD (a:=some (AV.bool true)) (b:=some (AV.bool (decide ((dk j aj bm)≤now)))) f2)<|VV (tp (decide ((dk j aj bm)≤now)) false f1)<|k:Pk _ [] ps)
        rcases bu (decide ((dk j aj bm)≤now)) with f3 | f3
        · have tF:=jv f3
          obtain ⟨p20,q21,aiW,_⟩:=dq.elem (i:=bm.toNat) o!
          have asS:=xn aiW o!
          have ao5:=(dq.has cV).load o! aiW
          obtain ⟨Zz,J9,Xq,DP,DQ,ia⟩:=dI dM (aX _ _ o! (bB _ _ r_))
          have FD:=bL cV mY ia
          obtain ⟨ado,U2,agP,Pb,Pc,oc⟩:=dI J9 ((ia _ o!).trans (aX _ _ o! (bB _ _ KF)))
          have FE:ado.get iV=none:=(oc _ o!).trans DP
          have Pd:=bL FD mY oc
          obtain ⟨alI,alJ,aqw,aho,ahp,ue⟩:=dI U2 ((oc _ o!).trans ((ia _ o!).trans (aX _ _ o! (bB _ _ KG))))
          have Z6:alI.get iV=none:=(ue _ o!).trans FE
          have Z7:alI.get ra=none:=(ue _ o!).trans Pb
          have aeg:=bL Pd mY ue
          obtain ⟨h26,ao6,ao7,aut,FQ,ahq,aqx,ahr,aqy,ahs,aqz⟩:=HU (d:=d+5) (h:=alI) (pqN:=j.ab.length) (sqN:=j.ab.length) (tqN:=((ay j).1.length)) (tqF:=Hw) j ba cG cW bm (aj.g bm.toNat) (aK.mono aeg fI) (aX _ _ o! (bB _ _ r_)) cN Z6 (aX _ _ o! (bB _ _ KF)) cN Z7 (aX _ _ o! (bB _ _ KG)) cN aho bJ bJ bJ bJ bJ bJ bJ bJ bJ bJ o! o! o! alJ dM (ahp.trans (Pc.trans DQ)) o!
          have asT:=Dk j ba cG cW bm (aj.g bm.toNat) bJ bJ bJ bJ
          have ao8:=(aeg.trans FQ)
          have c27:AV.same 20 (AV.agg [j.au,j.ar,(AV.slice iV 0 j.ab.length j.ab.length false),(AV.slice ra 0 j.ab.length j.ab.length false),(AV.slice sj 0 (ay j).1.length (ay j).1.length Hw)]) (AV.agg [j.au,j.ar,(AV.slice iV 0 j.ab.length j.ab.length false),(AV.slice ra 0 j.ab.length j.ab.length false),(AV.slice sj 0 (ay j).1.length (ay j).1.length Hw)])=true:=dK 18 (kK bp.same (kK cC.same (kK (fun n=>by simp [AV.same]) (kK (fun n=>by simp [AV.same]) (kK (fun n=>by simp [AV.same]) CK)))))
          have c28:=dq.same 19
          have w29:IntKind.i64.wrap (bm+1)=bm+1:=wrap_i64 o! o!
          exact bY.round (congrArg Sum.inl (by simp only[bW,f0,f1,f2,f3,ao,ai])) (pk (d+8) _ _ hh _ h26 (n9<|BM f3 (aP 103 0 (AV.agg [j.au,j.ar,(AV.slice iV 0 j.ab.length j.ab.length false),(AV.slice ra 0 j.ab.length j.ab.length false),(AV.slice sj 0 (ay j).1.length (ay j).1.length Hw)]) (aX _ _ o! (bB _ _ lk)) k!)<|CC<|MM (aP 26 0 aJ (aX _ _ o! (bB _ _ dA)) k!)<|CC<|VV asS<|MM ao5<|EE ao6<|HH (aP 103 0 (AV.agg [j.au,j.ar,(AV.slice iV 0 j.ab.length j.ab.length false),(AV.slice ra 0 j.ab.length j.ab.length false),(AV.slice sj 0 (ay j).1.length (ay j).1.length Hw)]) (aX _ _ o! (bB _ _ lk)) k!)<|HH c27<|HH (aP 26 0 aJ (aX _ _ o! (bB _ _ dA)) k!)<|HH c28<|HH ao5<|HH (show AV.same 20 (Zi (aj.g bm.toNat)) (Zi (aj.g bm.toNat))=true from aS 19 _ _)<|VV (qE 3 false true w29)<|CC<|ZZ) k!) o! _ k! (fun x=>qZ now j aJ ah Hw aj bj cg gF gM iV ra sj bp cC dq fI fU iB mO nI o8 qF yL bM tC C5 Lp Lq Y4 ahi ahj o_ uA uC uD uE uF E5 E6 E7 E8 PC PD PE PF PG PH PI PJ PK PL PM NG0 AF Gv MJ MK XJ XK XL dx cR (bm+1) (di j ba cG cW bm (aj.g bm.toNat)).1 (di j ba cG cW bm (aj.g bm.toNat)).2.1 (di j ba cG cW bm (aj.g bm.toNat)).2.2 z0 lU (show ((QI j (j.ab.length:Int) (di j ba cG cW bm (aj.g bm.toNat)).2.2∧(∀ii,ii<((di j ba cG cW bm (aj.g bm.toNat)).2.1).length→0≤((di j ba cG cW bm (aj.g bm.toNat)).2.1).g ii∧((di j ba cG cW bm (aj.g bm.toNat)).2.1).g ii+(j.ab.g ii).takes≤100000)∧(∀q:Nat,q<cR.length→0≤cR.g q∧cR.g q<(j.ab.length:Int))∧cR.length≤19)∧(0≤(bm+1)∧(bm+1)≤(j.ab.length:Int)∧(cR.length:Int)≤(bm+1)∧QI j (bm+1) (di j ba cG cW bm (aj.g bm.toNat)).2.2)) from lU) x h26 ao7 ao8 o! cN cN cN (FQ _ _ ((ue _ o!).trans ((oc _ o!).trans ((ia _ o!).trans (aX _ _ o! (bB _ _ br)))))) (FQ _ _ ((ue _ o!).trans ((oc _ o!).trans ((ia _ o!).trans (aX _ _ o! (bB _ _ dA)))))) (FQ _ _ ((ue _ o!).trans ((oc _ o!).trans ((ia _ o!).trans (aX _ _ o! (bB _ _ mg)))))) (FQ _ _ ((ue _ o!).trans ((oc _ o!).trans ((ia _ o!).trans (aX _ _ o! (bB _ _ lk)))))) ahq ahr ahs (eG.has (eG.wo (eG.wo (eG.wo (Je.has gA) ia o!) oc o!) ue o!) FQ) oM o!)
        · have tF:=pK f3
          obtain ⟨CU,aeh,ly,Rj,AH,rT⟩:=gQ dM (aN.cells [(Zi bm)] 3 false)
          have kH:=cV.trans rT
          have aei:=gA.trans rT
          obtain ⟨z21,Y1,Vw,AG,aiI,AZ,asU⟩:=eG.I0 (k:= .i64) (g:=gg0) (tys:= #[26,26]) (v:=bm) (L:=cR) ly o! (Je.has aei) AH oM rfl rfl k! k! k! (bytes:=8) k! (z0:=Zi 0) k! rfl (by decide)
          have Jg:=Has.I1 kH bM o! AZ
          have w23:IntKind.i64.wrap (bm+1)=bm+1:=wrap_i64 o! o!
          exact bY.round (congrArg Sum.inl (by simp only[bW,f0,f1,f2,f3,ao,ai])) (pk (d+8) _ _ hh _ Y1 (n9<|BB f3<|CN 2<|NN aeh (fun i=>(AV.slice i 0 1 1 false))<|PP (show cb env CU #[26,26] z0 (AV.slice h7.nx 0 1 1 false)=some (z21,Y1) from Vw)<|CC<|VV (qE 3 false true w23)<|CC<|ZZ) k!) o! _ k! (fun x=>qZ now j aJ ah Hw aj bj cg gF gM iV ra sj bp cC dq fI fU iB mO nI o8 qF yL bM tC C5 Lp Lq Y4 ahi ahj o_ uA uC uD uE uF E5 E6 E7 E8 PC PD PE PF PG PH PI PJ PK PL PM NG0 AF Gv MJ MK XJ XK XL dx (cR++[bm]) (bm+1) ba cG cW z21 lU (show ((QI j (j.ab.length:Int) (cW)∧(∀ii,ii<(cG).length→0≤(cG).g ii∧(cG).g ii+(j.ab.g ii).takes≤100000)∧(∀q:Nat,q<(cR++[bm]).length→0≤(cR++[bm]).g q∧(cR++[bm]).g q<(j.ab.length:Int))∧(cR++[bm]).length≤19)∧(0≤(bm+1)∧(bm+1)≤(j.ab.length:Int)∧((cR++[bm]).length:Int)≤(bm+1)∧QI j (bm+1) (cW))) from lU) x Y1 AG Jg o! cN cN cN (AZ _ _ o! (rT _ _ (aX _ _ o! (bB _ _ br)))) (AZ _ _ o! (rT _ _ (aX _ _ o! (bB _ _ dA)))) (AZ _ _ o! (rT _ _ (aX _ _ o! (bB _ _ mg)))) (AZ _ _ o! (rT _ _ (aX _ _ o! (bB _ _ lk)))) (AZ _ _ o! (rT _ _ (aX _ _ o! (bB _ _ r_)))) (AZ _ _ o! (rT _ _ (aX _ _ o! (bB _ _ KF)))) (AZ _ _ o! (rT _ _ (aX _ _ o! (bB _ _ KG)))) asU oM o!)
    · have eB:=pK f1
      obtain ⟨yN,aej,oI,SG,vG,xI⟩:=gQ dM (aN.cells [(Zi bm)] 3 false)
      have kX:=cV.trans xI
      have vH:=gA.trans xI
      obtain ⟨z18,Qf,Vx,xu,Rs,A1,aht⟩:=eG.I0 (k:= .i64) (g:=gg0) (tys:= #[26,26]) (v:=bm) (L:=cR) oI o! (Je.has vH) vG oM rfl rfl k! k! k! (bytes:=8) k! (z0:=Zi 0) k! rfl (by decide)
      have vj:=Has.I1 kX bM o! A1
      have w20:IntKind.i64.wrap (bm+1)=bm+1:=wrap_i64 o! o!
      exact bY.round (congrArg Sum.inl (by simp only[bW,f0,f1,ao,ai])) (pk (d+8) _ _ hh _ Qf (gK<|BB f1<|BB f1<|BB f1<|BV f1 (vd false f1)<|FF<|CN 2<|NN aej (fun i=>(AV.slice i 0 1 1 false))<|PP (show cb env yN #[26,26] z0 (AV.slice h7.nx 0 1 1 false)=some (z18,Qf) from Vx)<|CC<|VV (qE 3 false true w20)<|CC<|ZZ) k!) o! _ k! (fun x=>qZ now j aJ ah Hw aj bj cg gF gM iV ra sj bp cC dq fI fU iB mO nI o8 qF yL bM tC C5 Lp Lq Y4 ahi ahj o_ uA uC uD uE uF E5 E6 E7 E8 PC PD PE PF PG PH PI PJ PK PL PM NG0 AF Gv MJ MK XJ XK XL dx (cR++[bm]) (bm+1) ba cG cW z18 lU (show ((QI j (j.ab.length:Int) (cW)∧(∀ii,ii<(cG).length→0≤(cG).g ii∧(cG).g ii+(j.ab.g ii).takes≤100000)∧(∀q:Nat,q<(cR++[bm]).length→0≤(cR++[bm]).g q∧(cR++[bm]).g q<(j.ab.length:Int))∧(cR++[bm]).length≤19)∧(0≤(bm+1)∧(bm+1)≤(j.ab.length:Int)∧((cR++[bm]).length:Int)≤(bm+1)∧QI j (bm+1) (cW))) from lU) x Qf xu vj o! cN cN cN (A1 _ _ o! (xI _ _ (aX _ _ o! (bB _ _ br)))) (A1 _ _ o! (xI _ _ (aX _ _ o! (bB _ _ dA)))) (A1 _ _ o! (xI _ _ (aX _ _ o! (bB _ _ mg)))) (A1 _ _ o! (xI _ _ (aX _ _ o! (bB _ _ lk)))) (A1 _ _ o! (xI _ _ (aX _ _ o! (bB _ _ r_)))) (A1 _ _ o! (xI _ _ (aX _ _ o! (bB _ _ KF)))) (A1 _ _ o! (xI _ _ (aX _ _ o! (bB _ _ KG)))) aht oM o!)
  · exact bY.out (cR,ba,cG,cW) z0 (congrArg Sum.inl (by simp only[bW,f0,ao,ai])) (pk (d+8) _ _ hh _ hh (ei<|BB f0<|ZZ) k!) aF o! ⟨aA,br,dA,mg,lk,r_,KF,KG,cN,cN,cN,(show (QI j (j.ab.length:Int) (cW)∧(∀ii,ii<(cG).length→0≤(cG).g ii∧(cG).g ii+(j.ab.g ii).takes≤100000)∧(∀q:Nat,q<cR.length→0≤cR.g q∧cR.g q<(j.ab.length:Int))∧cR.length≤19) from lU),Je,oM⟩ k!
def lM (j:bP) (aj:List Int) (now:Int) (ah:Int):List Int×Bool:=((fh j (bW j aj now ah (((j.ab.length:Nat):Int) - 0).toNat ([]) 0 (ay j).2.1 (ay j).2.2 (ay j).1).2.1 (bW j aj now ah (((j.ab.length:Nat):Int) - 0).toNat ([]) 0 (ay j).2.1 (ay j).2.2 (ay j).1).2.2.1 (bW j aj now ah (((j.ab.length:Nat):Int) - 0).toNat ([]) 0 (ay j).2.1 (ay j).2.2 (ay j).1).2.2.2 (nX (bW j aj now ah (((j.ab.length:Nat):Int) - 0).toNat ([]) 0 (ay j).2.1 (ay j).2.2 (ay j).1).1 (fun x y=>mb x y aj)) now).2.2.1,(fh j (bW j aj now ah (((j.ab.length:Nat):Int) - 0).toNat ([]) 0 (ay j).2.1 (ay j).2.2 (ay j).1).2.1 (bW j aj now ah (((j.ab.length:Nat):Int) - 0).toNat ([]) 0 (ay j).2.1 (ay j).2.2 (ay j).1).2.2.1 (bW j aj now ah (((j.ab.length:Nat):Int) - 0).toNat ([]) 0 (ay j).2.1 (ay j).2.2 (ay j).1).2.2.2 (nX (bW j aj now ah (((j.ab.length:Nat):Int) - 0).toNat ([]) 0 (ay j).2.1 (ay j).2.2 (ay j).1).1 (fun x y=>mb x y aj)) now).1)
theorem aek {d:Nat} {h:az} {aJ:AV} (j:bP) (aj:List Int) (now:Int) (ah:Int) (b7:aK.ok h j) (bA:bT h .i64 3 aJ aj) (mf:cE j) (oQ:aj.length=j.ab.length) (xU:j.ab.length≤19) (Ak:0<j.af.length) (Ha:∀i,i<aj.length→0≤aj.g i∧aj.g i+(j.ab.g i).takes≤100000) (Y5:0≤now) (pre6:now≤100000) (bM:Tidy h):∃z hk,cA (d+9) (.fn 36) [(AV.agg [j.au,j.ar]),aJ,(Zi now),(Zi ah)] h= .ret (AV.tuple [z,(AV.bool (lM j aj now ah).2)]) hk∧Grow h hk∧bT hk .i64 3 z (lM j aj now ah).1:=by
 have oA:=bA.small
 have l7:=b7.1.small
 have l8:=b7.2.small
 obtain ⟨h1,dw,de,jW,bx,ca⟩:=gQ bM (aN.cells [j.au,j.ar] 25 false)
 have bD:=ca
 obtain ⟨h2,r7,mN,I4,ka,iM⟩:=gQ de (aN.cells [aJ] 26 false)
 have gm:=bD.trans iM
 obtain ⟨h3,acw,om,akn,Zd,Fq⟩:=gQ mN (aN.cells [(Zi ah)] 3 false)
 have fl:=gm.trans Fq
 obtain ⟨pb4,SK,zb6,gb7,vQ,ael,gB,aem,aen,alK,asV,asW,asX,asY,asZ,as0,as3,as4⟩:=wu (d:=d+5) j (aK.mono fl b7) bJ bJ bJ om
 have ji:=gB.y
 have M9:h3.nx≤vQ.nx:=gB.n
 have as5:=uH j bJ
 obtain ⟨qb8,Hw,rfl,as6,aeo⟩:=pL.block alK o!
 have gZ:=fl.trans gB.a
 have auu:=ji _ _ aem
 have auv:=ji _ _ aen
 have auw:=ji _ _ aeo
 obtain ⟨lY,KH,iU,Gy,vI,jS⟩:=gQ ji (aN.cells [AV.aw,AV.aw,AV.aw,AV.aw,AV.aw] 103 false)
 have my:=gZ.trans jS
 have Z8:=jS
 have as7:=b7.1.scalar
 have J3:=b7.2.scalar
 obtain ⟨pH,ao9,hD,R_,tX,wW⟩:=j_ (t:=103) (n:=5) (i:=vQ.nx) (L:=[j.au,j.ar,(AV.slice pb4 0 j.ab.length j.ab.length false),(AV.slice SK 0 j.ab.length j.ab.length false),(AV.slice qb8 0 (ay j).1.length (ay j).1.length Hw)]) iU vI k! rfl rfl (kJ as7 (kJ J3 rfl))
 have eT:=Has.bK my wW bM o!
 have Z9:=Has.bK Z8 wW ji o!
 have aj1:=b7.1.len
 obtain ⟨Uh,aj2,Qf,wv,xu,Rs,Uj,WM,Ou,WN,wx,XM,XN,XO,agp,agq,aqA,zt,jM,agr⟩:=bY.n rfl (qZ (d:=d) (h:=h) (gg0:=pH) now j aJ ah Hw aj h.nx h1.nx h2.nx vQ.nx pb4 SK qb8 b7.1 b7.2 bA b7 a! a! a! a! a! a! a! bM o! o! o! o! o! o! o! o! o! o! o! o! o! o! o! o! o! o! o! o! o! o! o! o! o! o! o! o! o! o! o! o! o! o! o! o! (((j.ab.length:Nat):Int) - 0).toNat ([]) 0 (ay j).2.1 (ay j).2.2 (ay j).1 AV.aw o! (show ((QI j (j.ab.length:Int) (ay j).1∧(∀ii,ii<((ay j).2.2).length→0≤((ay j).2.2).g ii∧((ay j).2.2).g ii+(j.ab.g ii).takes≤100000)∧(∀q:Nat,q<([]).length→0≤([]).g q∧([]).g q<(j.ab.length:Int))∧([]).length≤19)∧(0≤0∧0≤(j.ab.length:Int)∧(([]).length:Int)≤0∧QI j 0 (ay j).1)) from ⟨⟨(aiF (OT j)).le o!,aoN (OT j),(fun q hq=>absurd hq (Nat.not_lt_zero _)),by decide⟩,by omega,by omega,by decide,aiF (OT j)⟩) (dr ((AV.agg [j.au,j.ar])::aJ::(Zi now)::(Zi ah)::(Pt h.nx)::(Pt h1.nx)::aL::(Pt h2.nx)::AV.aw::(AV.bool false)::(Pt vQ.nx)::AV.aw::aL::aL::aL::(AV.agg [j.au,j.ar])::(AV.agg [j.au,j.ar,(AV.slice pb4 0 j.ab.length j.ab.length false),(AV.slice SK 0 j.ab.length j.ab.length false),(AV.slice qb8 0 (ay j).1.length (ay j).1.length Hw)])::(Pt h.nx)::j.au::(Zn j.ab.length)::(Zi 0)::iW 47)) pH hD eT o! cN cN cN (wW _ _ o! (jS _ _ (gB.a _ _ (Fq _ _ (iM _ _ bx))))) (wW _ _ o! (jS _ _ (gB.a _ _ (Fq _ _ ka)))) (wW _ _ o! (jS _ _ (gB.a _ _ Zd))) tX (wW _ _ o! (jS _ _ aem)) (wW _ _ o! (jS _ _ aen)) (wW _ _ o! (jS _ _ aeo)) (.inl ⟨rfl,rfl⟩) (Nat.zero_le _) o!)
 have vj:=Uj
 have as8:=zt.2.2.2
 have as9:=zt.1
 have ata:=zt.2.1
 have atb:=XI (P:=fun x y=>mb x y aj) zt.2.2.1
 obtain ⟨CU,adY,ly,acS,alL,atc,rH⟩:=alF (d:=d+5) (e:=pH) (bW j aj now ah (((j.ab.length:Nat):Int) - 0).toNat ([]) 0 (ay j).2.1 (ay j).2.2 (ay j).1).1 (fun x y=>mb x y aj) (j.ab.length:Int) (fun x y r1 r2 hh yy kk=>ZW (d:=d+4) x y aj h1.nx (bA.has (Kp.has kk jM bM vj o!)) (kk _ _ (eG.vF jM o!) Ou) o! o! o! o! yy) xu jM o! zt.2.2.1
 have kH:=(Kp.has rH jM bM vj o!)
 obtain ⟨au3,alM,aqB,ahu,ahv,Ea⟩:=dI ly (rH _ _ (eG.vF jM o!) XM)
 have alN:=bL kH mY Ea
 obtain ⟨ao3,Vu,ahk,PQ,PS,mc⟩:=dI alM ((Ea _ o!).trans (rH _ _ (eG.vF jM o!) XN))
 have Z_:ao3.get pb4=none:=(mc _ o!).trans ahu
 have Vv:=bL alN mY mc
 obtain ⟨Zy,J8,Xp,DN,DO,jN⟩:=dI Vu ((mc _ o!).trans ((Ea _ o!).trans (rH _ _ (eG.vF jM o!) XO)))
 have FP:Zy.get pb4=none:=(jN _ o!).trans Z_
 have Z':Zy.get SK=none:=(jN _ o!).trans PQ
 have FB:=bL Vv mY jN
 obtain ⟨h23,apa,SL,auy,aep,aqC,aqD,ahw,aqE,aqF,aqG⟩:=Pl (d:=d+2) (h:=Zy) (pqN:=j.ab.length) (sqN:=j.ab.length) (tqN:=((ay j).1.length)) (tqF:=Hw) j (bW j aj now ah (((j.ab.length:Nat):Int) - 0).toNat ([]) 0 (ay j).2.1 (ay j).2.2 (ay j).1).2.1 (bW j aj now ah (((j.ab.length:Nat):Int) - 0).toNat ([]) 0 (ay j).2.1 (ay j).2.2 (ay j).1).2.2.1 (bW j aj now ah (((j.ab.length:Nat):Int) - 0).toNat ([]) 0 (ay j).2.1 (ay j).2.2 (ay j).1).2.2.2 (nX (bW j aj now ah (((j.ab.length:Nat):Int) - 0).toNat ([]) 0 (ay j).2.1 (ay j).2.2 (ay j).1).1 (fun x y=>mb x y aj)) now (j.ab.length:Int) (aK.mono FB b7) (eG.zs (eG.wo (eG.wo (eG.wo alL Ea o!) mc o!) jN o!) o! k! k!) (rH _ _ (eG.vF jM o!) XM) cN FP (rH _ _ (eG.vF jM o!) XN) cN Z' (rH _ _ (eG.vF jM o!) XO) cN DN bJ bJ bJ bJ bJ bJ bJ bJ bJ bJ bJ bJ o! o! o! J8 ly (DO.trans (PS.trans ahv)) o!
 have SM:=(FB.trans aep)
 have c24:AV.same 20 (AV.agg [j.au,j.ar,(AV.slice pb4 0 j.ab.length j.ab.length false),(AV.slice SK 0 j.ab.length j.ab.length false),(AV.slice qb8 0 (ay j).1.length (ay j).1.length Hw)]) (AV.agg [j.au,j.ar,(AV.slice pb4 0 j.ab.length j.ab.length false),(AV.slice SK 0 j.ab.length j.ab.length false),(AV.slice qb8 0 (ay j).1.length (ay j).1.length Hw)])=true:=dK 18 (kK b7.1.same (kK b7.2.same (kK (fun n=>by simp [AV.same]) (kK (fun n=>by simp [AV.same]) (kK (fun n=>by simp [AV.same]) CK)))))
 have e:lM j aj now ah=((fh j (bW j aj now ah (((j.ab.length:Nat):Int) - 0).toNat ([]) 0 (ay j).2.1 (ay j).2.2 (ay j).1).2.1 (bW j aj now ah (((j.ab.length:Nat):Int) - 0).toNat ([]) 0 (ay j).2.1 (ay j).2.2 (ay j).1).2.2.1 (bW j aj now ah (((j.ab.length:Nat):Int) - 0).toNat ([]) 0 (ay j).2.1 (ay j).2.2 (ay j).1).2.2.2 (nX (bW j aj now ah (((j.ab.length:Nat):Int) - 0).toNat ([]) 0 (ay j).2.1 (ay j).2.2 (ay j).1).1 (fun x y=>mb x y aj)) now).2.2.1,(fh j (bW j aj now ah (((j.ab.length:Nat):Int) - 0).toNat ([]) 0 (ay j).2.1 (ay j).2.2 (ay j).1).2.1 (bW j aj now ah (((j.ab.length:Nat):Int) - 0).toNat ([]) 0 (ay j).2.1 (ay j).2.2 (ay j).1).2.2.1 (bW j aj now ah (((j.ab.length:Nat):Int) - 0).toNat ([]) 0 (ay j).2.1 (ay j).2.2 (ay j).1).2.2.2 (nX (bW j aj now ah (((j.ab.length:Nat):Int) - 0).toNat ([]) 0 (ay j).2.1 (ay j).2.2 (ay j).1).1 (fun x y=>mb x y aj)) now).1):=by simp only[lM,ao,ai]
 rw[e]
 exact ⟨(AV.slice SK 0 j.ab.length j.ab.length false),pS rfl (aY Tryz.func36 aef rfl (.inr rfl) (pk (d+8) _ _ h _ h23 (NN dw (fun i=>(Pt i))<|AA (.a (aN.cells [aJ] 26 false) (Pt h1.nx) h2)<|HH r7<|HH (show ∃mk:Nat→AV,some (aN.cells (AV.cells aJ) 26 false,fun i=>AV.ptr i 0)=some (aN.cells [aJ] 26 false,mk)∧mk h1.nx=(Pt h1.nx) from ⟨_,(by rw[CO bA.scalar]),rfl⟩)<|NN acw (fun i=>(Pt i))<|CN 2<|MM (aP 25 0 (AV.agg [j.au,j.ar]) (Fq _ _ (iM _ _ bx)) k!)<|EE ael<|NN KH (fun i=>(Pt i))<|SS ao9<|CN 2<|MM (aP 22 0 j.au (wW _ _ o! (jS _ _ (gB.a _ _ (Fq _ _ (iM _ _ bx))))) k!)<|VV aj1<|CC<|LL wv<|CN 2<|EE adY<|CC<|MM (aP 26 3 (AV.slice SK 0 j.ab.length j.ab.length false) (rH _ _ (eG.vF jM o!) wx) k!)<|MM (aP 103 0 (AV.agg [j.au,j.ar,(AV.slice pb4 0 j.ab.length j.ab.length false),(AV.slice SK 0 j.ab.length j.ab.length false),(AV.slice qb8 0 (ay j).1.length (ay j).1.length Hw)]) (rH _ _ (eG.vF jM o!) wx) k!)<|CN 2<|EE apa<|CN 2<|HH (aP 26 3 (AV.slice SK 0 j.ab.length j.ab.length false) (rH _ _ (eG.vF jM o!) wx) k!)<|HH (show AV.same 20 (AV.slice SK 0 j.ab.length j.ab.length false) (AV.slice SK 0 j.ab.length j.ab.length false)=true from gy 19 _ _ _ _ _)<|HH (aP 26 3 (AV.slice SK 0 j.ab.length j.ab.length false) (aep _ _ ((jN _ o!).trans ((mc _ o!).trans ((Ea _ o!).trans (rH _ _ (eG.vF jM o!) wx))))) k!)<|HH (show AV.same 20 (AV.slice SK 0 j.ab.length j.ab.length false) (AV.slice SK 0 j.ab.length j.ab.length false)=true from gy 19 _ _ _ _ _)<|HH (aP 103 0 (AV.agg [j.au,j.ar,(AV.slice pb4 0 j.ab.length j.ab.length false),(AV.slice SK 0 j.ab.length j.ab.length false),(AV.slice qb8 0 (ay j).1.length (ay j).1.length Hw)]) (rH _ _ (eG.vF jM o!) wx) k!)<|HH c24<|ZZ) k!) k!) bM ⟨SL,SM,by omega⟩ (P:=fun hh=>bT hh .i64 3 (AV.slice SK 0 j.ab.length j.ab.length false) (fh j (bW j aj now ah (((j.ab.length:Nat):Int) - 0).toNat ([]) 0 (ay j).2.1 (ay j).2.2 (ay j).1).2.1 (bW j aj now ah (((j.ab.length:Nat):Int) - 0).toNat ([]) 0 (ay j).2.1 (ay j).2.2 (ay j).1).2.2.1 (bW j aj now ah (((j.ab.length:Nat):Int) - 0).toNat ([]) 0 (ay j).2.1 (ay j).2.2 (ay j).1).2.2.2 (nX (bW j aj now ah (((j.ab.length:Nat):Int) - 0).toNat ([]) 0 (ay j).2.1 (ay j).2.2 (ay j).1).1 (fun x y=>mb x y aj)) now).2.2.1) (bT.own (op:=false) k! k! ahw cN o!) fun v=>(zQ (af8 v) o!).elim⟩
theorem KI {P:Nat→Bool}:∀{k i:Nat},(∀n,i≤n→n<i+k→P n=false)→anyI P k i=false
 | 0,i,h=>rfl
 | k+1,i,h=>by rw[anyI,h i (jR _) o!,KI (k:=k) fun n a b=>h n o! o!];rfl
def re (j:bP) (st:List Int) (now r:Int) (i:Nat):Prop:=st.g i<now∧((∀u,u<(j.ab.g i).aB.length→((j.ab.g i).aB.g u).ah≠r)∨st.g i+(j.ab.g i).takes≤now)
theorem aeq {us:List ko} {r:Int}:fi us (fun y=>qx y r)=false↔∀u,u<us.length→(us.g u).ah≠r:=by
 rw[UI]
 constructor
 · intro h u hu e
   have:=mA h u (Nat.zero_le _) o!
   rw[qx,eV e] at this;cases this
 · intro h
   exact KI fun n _ hn=>by rw[qx,fL (h n o!)]
structure PT (j:bP) (st:List Int) (now r:Int) (i:Nat) (v:List Int) (p:List Bool) (s:List Int) (T:List Tl) (c:Nat):Prop where
 pl:p.length=j.ab.length
 sl:s.length=j.ab.length
 pk:∀q,p.g q=true↔q<i∧re j st now r q
 ps:∀q,p.g q=true→s.g q=st.g q
 tm:Tm j s
 inv:INV j p s c T
 c1:nF p+c=j.ab.length
 c2:v.length+c=i
 vin:∀x:Nat,x<i→¬re j st now r x→∃q,q<v.length∧v.g q=(x:Int)
 vr:∀q:Nat,q<v.length→0≤v.g q∧v.g q<(j.ab.length:Int)
section
variable {j:bP} {st:List Int} {now r:Int}
theorem PT.put (F:cE j) (T0:Tm j st) {i:Nat} {v:List Int} {p:List Bool} {s:List Int} {T:List Tl} {c:Nat} (G:PT j st now r i v p s T c) (hi:i<j.ab.length) (K:re j st now r i):PT j st now r (i+1) v (di j p s T (i:Int) (st.g i)).1 (di j p s T (i:Int) (st.g i)).2.1 (di j p s T (i:Int) (st.g i)).2.2 (c+1):=by
 have hp:p.g i=false:=by
  cases a:p.g i with
  | false=>rfl
  | true=>have:=((G.pk i).1 a).1;omega
 have nt:=F.nt
 have pl:=G.pl
 have sl:=G.sl
 have c1:=G.c1
 have c2:=G.c2
 have iv:=O7 F hi o! hp pl sl (T0 i hi).1 (T0 i hi).2 G.inv p s
 have nf:=E9 (l:=p) (n:=i) o! hp
 rw[Bx] at iv ⊢
 rw[Int.toNat_natCast] at iv ⊢
 refine ⟨by show (p.set i true).length=_;rw[List.length_set];exact pl,by show (s.set i (st.g i)).length=_;rw[List.length_set];exact sl,fun q=>?_,fun q hq=>?_,fun q hq=>?_,iv,by show nF (p.set i true)+(c+1)=_;omega,by omega,fun x hx nk=>?_,G.vr⟩
 · show (p.set i true).g q=true↔_
   rw[kz]
   by_cases e:i=q
   · subst e;rw[if_pos ⟨rfl,by omega⟩];exact ⟨fun _=>⟨by omega,K⟩,fun _=>rfl⟩
   · rw[if_neg fun z=>e z.1,G.pk q];exact ⟨fun z=>⟨by omega,z.2⟩,fun z=>⟨by omega,z.2⟩⟩
 · show (s.set i (st.g i)).g q=st.g q
   have hq:(p.set i true).g q=true:=hq
   by_cases e:i=q
   · subst e;exact fk o!
   · rw[kz,if_neg fun z=>e z.1] at hq
     rw[bk e];exact G.ps q hq
 · show 0≤(s.set i (st.g i)).g q∧(s.set i (st.g i)).g q+_≤_
   by_cases e:i=q
   · subst e;rw[fk o!];exact T0 i hi
   · rw[bk e];exact G.tm q hq
 · by_cases e:x=i
   · subst e;exact absurd K nk
   · exact G.vin x o! nk
theorem alO {L:List Int} {x:Int} {q:Nat} (h:q<L.length):(L++[x]).g q=L.g q:=by
 rw[List.g,List.g,List.getD_eq_getElem?_getD,List.getD_eq_getElem?_getD,List.getElem?_append_left h]
theorem alP {L:List Int} {x:Int}:(L++[x]).g L.length=x:=by
 rw[List.g,List.getD_eq_getElem?_getD,List.getElem?_append_right (jR _),Nat.sub_self];rfl
theorem PT.app {i:Nat} {v:List Int} {p:List Bool} {s:List Int} {T:List Tl} {c:Nat} (G:PT j st now r i v p s T c) (hi:i<j.ab.length) (K:¬re j st now r i):PT j st now r (i+1) (v++[(i:Int)]) p s T c:=by
 have c2:=G.c2
 refine ⟨G.pl,G.sl,fun q=>?_,G.ps,G.tm,G.inv,G.c1,by rw[List.length_append,List.length_singleton];omega,fun x hx nk=>?_,Ky G.vr o! o!⟩
 · rw[G.pk q]
   exact ⟨fun z=>⟨by omega,z.2⟩,fun z=>⟨by
    have:q≠i:=fun e=>K (e▸z.2)
    have:=z.1;omega,z.2⟩⟩
 · by_cases e:x=i
   · subst e;exact ⟨v.length,by rw[List.length_append,List.length_singleton];omega,alP⟩
   · obtain ⟨q,hq,e⟩:=G.vin x o! nk
     exact ⟨q,by rw[List.length_append,List.length_singleton];omega,by rw[alO hq];exact e⟩
theorem aer (F:cE j) (T0:Tm j st):∀(k i:Nat) (v:List Int) (p:List Bool) (s:List Int) (T:List Tl) (c:Nat),i+k=j.ab.length→PT j st now r i v p s T c→∃c',PT j st now r j.ab.length (bW j st now r k v (i:Int) p s T).1 (bW j st now r k v (i:Int) p s T).2.1 (bW j st now r k v (i:Int) p s T).2.2.1 (bW j st now r k v (i:Int) p s T).2.2.2 c'
 | 0,i,v,p,s,T,c,h,G=>⟨c,by rw[bW];exact (show i=j.ab.length by omega)▸G⟩
 | k+1,i,v,p,s,T,c,h,G=>by
  have hi:i<j.ab.length:=by omega
  have ip:((i:Int)+1)=((i+1:Nat):Int):=by omega
  have en:=adp F T0 (n:=(i:Int)) o! o!
  rw[bW,eV (by omega:(i:Int)<((j.ab.length:Nat):Int)),ao,ip,Int.toNat_natCast,en,Int.toNat_natCast]
  have put:=fun K=>aer F T0 k (i+1) v _ _ _ _ o! (G.put F T0 hi K)
  have app:=fun K=>aer F T0 k (i+1) (v++[(i:Int)]) _ _ _ _ o! (G.app hi K)
  by_cases a:st.g i<now
  · rw[eV a,ao]
    cases b:fi (j.ab.g i).aB (fun y=>qx y r) with
    | false=>
     rw[Bool.not_false,ao]
     exact put ⟨a,.inl (aeq.1 b)⟩
    | true=>
     rw[Bool.not_true,ai]
     by_cases d:st.g i+(j.ab.g i).takes≤now
     · rw[eV d,ao];exact put ⟨a,.inr d⟩
     · rw[fL d,ai]
       exact app fun K=>K.2.elim (fun u=>by rw[aeq.2 u] at b;cases b) d
  · rw[fL a,ai]
    exact app fun K=>a K.1
theorem alQ (F:cE j) (now r:Int) (st:List Int):PT j st now r 0 [] (ay j).2.1 (ay j).2.2 (ay j).1 0:=by
 have p2:(ay j).2.1=List.replicate j.ab.length false:=by rw[RG]
 have s2:(ay j).2.2=List.replicate j.ab.length 0:=by rw[RG]
 have iv:=O6 (s:=List.replicate j.ab.length 0) F
 rw[p2,s2]
 refine ⟨List.length_replicate,List.length_replicate,fun q=>?_,fun q hq=>?_,fun i hi=>?_,iv,by rw[yR];omega,rfl,fun x hx=>by omega,fun q hq=>absurd hq (Nat.not_lt_zero _)⟩
 · rw[Sb];exact ⟨fun z=>(by cases z),fun z=>by omega⟩
 · rw[Sb] at hq;cases hq
 · have tk:=F.tk i hi
   have e:(List.replicate j.ab.length (0:Int)).g i=0:=by rw[List.g,List.getD_eq_getElem?_getD,List.getElem?_replicate,if_pos hi];rfl
   rw[e];omega
end
def InL (L:List Int) (x:Int):Prop:=∃q,q<L.length∧L.g q=x
theorem ahx {L:List Int} {v:Nat} (h0:0<v) (h1:v<L.length) {x:Int} (h:InL L x):InL ((L.set v (L.g (v - 1))).set (v - 1) (L.g v)) x:=by
 obtain ⟨q,hq,e⟩:=h
 by_cases a:q=v
 · subst a
   exact ⟨q - 1,by rw[List.length_set,List.length_set];omega,by rw[fk (by rw[List.length_set];omega)];exact e⟩
 · by_cases b:q=v - 1
   · subst b
     exact ⟨v,by rw[List.length_set,List.length_set];omega,by rw[bk o!,fk o!];exact e⟩
   · exact ⟨q,by rw[List.length_set,List.length_set];omega,by rw[bk o!,bk o!];exact e⟩
theorem XP {a:Int} {P:Int→Int→Int} (ha:0≤a):∀(k:Nat) (v:Int) (L:List Int),v<(L.length:Int)→(gT a P k v L).length=L.length∧∀x,InL L x→InL (gT a P k v L) x
 | 0,v,L,hv=>⟨rfl,fun x h=>h⟩
 | k+1,v,L,hv=>by
  rw[gT]
  by_cases c:a<v
  · rw[eV c,ao]
    by_cases e:P (L.g v.toNat) (L.g (Int.toNat (v - 1)))<0
    · rw[eV e,ao]
      have i:=XP ha (P:=P) k (v - 1) ((L.set v.toNat (L.g (Int.toNat (v - 1)))).set (Int.toNat (v - 1)) (L.g v.toNat)) (by rw[List.length_set,List.length_set];omega)
      rw[List.length_set,List.length_set] at i
      refine ⟨i.1,fun x h=>i.2 x ?_⟩
      have q:=ahx (v:=Int.toNat v) o! o! h
      rw[show Int.toNat v - 1=Int.toNat (v - 1) by omega] at q
      exact q
    · rw[fL e,ai];exact ⟨rfl,fun x h=>h⟩
  · rw[fL c,ai];exact ⟨rfl,fun x h=>h⟩
theorem XQ {a b:Int} {P:Int→Int→Int} (ha:0≤a):∀(k:Nat) (v:Int) (L:List Int),b≤(L.length:Int)→(lf a P b k v L).length=L.length∧∀x,InL L x→InL (lf a P b k v L) x
 | 0,v,L,hv=>⟨rfl,fun x h=>h⟩
 | k+1,v,L,hv=>by
  rw[lf]
  by_cases c:v<b
  · rw[eV c,ao]
    have i:=XP ha (P:=P) v.toNat v L o!
    have i0:=XQ ha (P:=P) (b:=b) k (v+1) _ (by rw[i.1];exact hv)
    exact ⟨i0.1.trans i.1,fun x h=>i0.2 x (i.2 x h)⟩
  · rw[fL c,ai];exact ⟨rfl,fun x h=>h⟩
theorem alR {L:List Int} {P:Int→Int→Int}:(nX L P).length=L.length∧∀x,InL L x→InL (nX L P) x:=by
 rw[nX,zo,GP]
 exact XQ (Int.le_refl _) _ _ L (Int.le_refl _)
theorem ahy {j:bP} {st:List Int} {now r:Int} (F:cE j) (T0:Tm j st) (n0:0≤now) (n1:now≤100000) (A:∀p,p.length=j.ab.length→(∀q,p.g q=true↔q<j.ab.length∧re j st now r q)→∀s:List Int,(∀q,p.g q=true→s.g q=st.g q)→SE j p s) (h:(lM j st now r).2=true):
 ∃p,SE j p (lM j st now r).1∧All j p∧p.length=j.ab.length∧(lM j st now r).1.length=j.ab.length∧Tm j (lM j st now r).1∧(∀q,q<j.ab.length→re j st now r q→(lM j st now r).1.g q=st.g q)∧∀q,q<j.ab.length→¬re j st now r q→now≤(lM j st now r).1.g q:=by
 have nt:=F.nt
 obtain ⟨c,G⟩:=aer F T0 (now:=now) (r:=r) j.ab.length 0 [] _ _ _ 0 (Nat.zero_add _) (alQ F now r st)
 rw[lM] at h ⊢
 rw[show Int.toNat (((j.ab.length:Nat):Int) - 0)=j.ab.length by omega,show (0:Int)=((0:Nat):Int) from rfl] at h ⊢
 generalize bW j st now r j.ab.length [] ((0:Nat):Int) (ay j).2.1 (ay j).2.2 (ay j).1=g at *
 obtain ⟨v,p,s,T⟩:=g
 dsimp only at G h ⊢
 have A0:=A p G.pl G.pk s G.ps
 have so:=alR (L:=v) (P:=fun x y=>mb x y st)
 have sr:=XI (P:=fun x y=>mb x y st) G.vr
 generalize nX v (fun x y=>mb x y st)=oqd at *
 have c1:=G.c1
 have c2:=G.c2
 have pa:=Kz F n0 n1 (oqd:=oqd) sr oqd.length p s T c
 rw[←ak3] at pa
 have z:=ad1 (j:=j) (oqd:=oqd) (fr:=now) (p:=p) (Int.toNat ((((bf j.ab oqd p).length:Nat):Int) - 0)) 0 p s T o!
 rw[List.drop_zero,show ((0:Nat):Int)=0 from rfl] at z
 rw[fh,z] at h ⊢
 generalize hu:wT j now (bf j.ab oqd p) p s T=u at pa h ⊢
 cases u with
 | inr y=>
  have y0:=SF hu
  dsimp only at h
  rw[y0] at h;cases h
 | inl x=>
  obtain ⟨a1,a2,a3,a4,a5,a6,a7⟩:=pa x G.pl G.sl G.tm G.inv A0 o! o! rfl
  refine ⟨x.1,a1,KA F a5 fun i hi=>?_,a4,a2,a3,fun q hq K=>?_,fun q hq K=>?_⟩
  · by_cases K:re j st now r i
    · exact .inl (a6 i ((G.pk i).2 ⟨hi,K⟩)).1
    · exact .inr (so.2 _ (G.vin i hi K))
  · have pq:=(G.pk q).2 ⟨hq,K⟩
    exact (a6 q pq).2.trans (G.ps q pq)
  · have al:=KA F a5 (fun i hi=>by
     by_cases K:re j st now r i
     · exact .inl (a6 i ((G.pk i).2 ⟨hi,K⟩)).1
     · exact .inr (so.2 _ (G.vin i hi K)))
    refine a7 q ?_ (al q hq)
    cases e:p.g q with
    | false=>rfl
    | true=>exact absurd ((G.pk q).1 e).2 K
end
end Go.Proofs.aM
