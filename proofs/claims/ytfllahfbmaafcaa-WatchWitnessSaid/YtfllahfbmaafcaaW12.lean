import Derived.Test.YtfllahfbmaafcaaW11
import Derived.Test.YtfllahfbmaafcaaW2
import Derived.Test.YtfllahfbmaafcaaW10
import Derived.Test.YtfllahfbmaafcaaW5
import Derived.Test.YtfllahfbmaafcaaW0
set_option linter.unusedVariables false
set_option linter.unusedSimpArgs false
namespace Go.Proofs.aG
open Go.Proofs Ab
noncomputable section
set_option maxRecDepth 100000
set_option maxHeartbeats 4000000
def nZ:Code:=T6 (Kg Oj)
def nB (x:Nat→AV) (b5 b8 b9 b10 b11:Nat):List AV:=rx x 0 5 ((Pt b5)::(x 6)::(x 7)::(Pt b8)::(Pt b9)::(Pt b10)::(Pt b11)::rx x 12 35 [])
theorem abn {d:Nat} (x:Nat→AV) (b5 b8 b9 b10 b11 lp:Nat) (s0:Int) (cv:AV) (h:aA):
 Ev env (cz (d+8)) nZ ⟨rx x 0 5 ((Pt b5)::(x 6)::(x 7)::(Pt b8)::(Pt b9)::(Pt b10)::(Pt b11)::rx x 12 27 ((AV.int .u64 s0)::cv::rx x 41 6 [])),h,[],.sm lp⟩ .normal ⟨rx x 0 5 ((Pt b5)::(x 6)::(x 7)::(Pt b8)::(Pt b9)::(Pt b10)::(Pt b11)::(x 12)::(x 13)::(AV.int .u64 s0)::cv::rx x 16 23 ((AV.int .u64 s0)::cv::rx x 41 6 [])),h,[],.sm lp⟩:=by
 have ev:=pkc (.sm lp) (d+8) nZ (rx x 0 5 ((Pt b5)::(x 6)::(x 7)::(Pt b8)::(Pt b9)::(Pt b10)::(Pt b11)::rx x 12 27 ((AV.int .u64 s0)::cv::rx x 41 6 []))) h .normal h (CN 2<|ZZ) (by kernel_rfl)
 exact Fo (by kernel_rfl) ev
theorem abo (x:Nat→AV) (b5 b8 b9 b10 b11:Nat) (a c:AV):([39,40].zip [a,c]).foldl (fun ts y=>ts.set y.1 y.2) (nB x b5 b8 b9 b10 b11)=rx x 0 5 ((Pt b5)::(x 6)::(x 7)::(Pt b8)::(Pt b9)::(Pt b10)::(Pt b11)::rx x 12 27 (a::c::rx x 41 6 [])):=by kernel_rfl
def Ol (z:AV) (k:Nat):Prop:=∃o n c b,z= .slice k o n c b
theorem dk.Fy {e:TypeId} {g h h':aA} {z:AV} {L:List AV} (o:dk e g h z L) (k:∀p w,Ol z p→h.get p=some w→h'.get p=some w):dk e g h' z L:=by
 rcases o with ⟨rfl,rfl⟩ | ⟨hn,p,op,rfl,hp,hg⟩
 · exact .inl ⟨rfl,rfl⟩
 · exact .inr ⟨hn,p,op,rfl,hp,k _ _ ⟨_,_,_,_,rfl⟩ hg⟩
theorem dk.inZ {e:TypeId} {g h:aA} {z:AV} {L:List AV} (o:dk e g h z L) (y:Tidy h) {k:Nat} (i:Ol z k):g.nx≤k∧k<h.nx:=by
 obtain ⟨o1,n,c,b,rfl⟩:=i
 rcases o with ⟨h1,_⟩ | ⟨hn,p,op,h1,hp,hg⟩
 · cases h1
 · cases h1;exact ⟨hp,y _ _ hg⟩
def ad9 (g:aA) (l:List aK) (hk:aA) (a:List AV) (y:Int×List Gate):Prop:=∃pc op,a=[.int .u64 y.1,.slice pc 0 y.2.length y.2.length op]∧Has g hk∧hk.get pc=some (.cells (List.flatMap (aF.c (α:=Gate)) y.2) 66 false)∧y.2≠ []∧y.2.length≤1000∧∀i,i<l.length→0≤bz y.2 (fun u=>eU u (l.g i).time)∧bz y.2 (fun u=>eU u (l.g i).time)<(y.2.length:Int)
def WiI (b5 b8 b9 b10 b11 lp:Nat) (x:Nat→AV) (dn:Nat) (P:Nat→Prop) (hh:aA):Prop:=
 lp<hh.nx∧hh.get b8=some (.cells [.aP] 30 false)∧hh.get b9=some (.cells [.aP] 30 false)∧hh.get b10=some (.cells [.bool false] 4 false)∧hh.get b11=some (.cells [Zi 0] 31 false)∧hh.get lp=some (.loop .ready none (nB x b5 b8 b9 b10 b11) [39,40] nZ kJ dn)∧∀k,P k↔(k=b8∨k=b9∨k=b10∨k=b11∨k=lp)
def WiJ (e:aA) (l:List aK) (b5 b8 b9 b10 b11 lp:Nat) (x:Nat→AV) (dn:Nat) (y:Int×List Gate) (P:Nat→Prop) (hh:aA):Prop:=
 ∃z1 z2,lp<hh.nx∧hh.get b8=some (.cells [z1] 30 false)∧hh.get b9=some (.cells [z2] 30 false)∧hh.get b10=some (.cells [.bool true] 4 false)∧hh.get b11=some (.cells [Zi 0] 31 false)∧hh.get lp=some (.loop .done (some .ret) (nB x b5 b8 b9 b10 b11) [39,40] nZ kJ dn)∧dk 3 e hh z1 (zs .i64 (dD y.1))∧dk 3 e hh z2 (zs .i64 (dC y.2 l))∧(∀k,Ol z1 k∨Ol z2 k→lp<k∧k<hh.nx)∧∀k,P k↔(k=b8∨k=b9∨k=b10∨k=b11∨k=lp∨Ol z1 k∨Ol z2 k)
theorem abp {d:Nat} {g e:aA} {l:List aK} {lv:AV} {b5 b8 b9 b10 b11 lp:Nat} (x:Nat→AV) (dn:Nat) (PS:Tidy g) (hlg:aY g lv l) (Ik:l.length≤1000) (g5:g.get b5=some (.cells [lv] 27 false)) (lg:g.nx≤lp) (le:e.nx≤lp) (l5:b5<b8) (l8:b8<b9) (l9:b9<b10) (Uk:b10<b11) (l11:b11<lp):YlZ (cz (d+9)) lp (ad9 g l) (WiI b5 b8 b9 b10 b11 lp x dn) (WiJ e l b5 b8 b9 b10 b11 lp x dn) where
 ay:=by
  rintro P hh ⟨lx,g8,g9,g10,g11,gp,pp⟩ k hk
  rcases (pp k).1 hk with p | p | p | p | p<;>omega
 Xp:=by
  rintro y P hh ⟨z1,z2,lx,g8,g9,g10,g11,gp,o1,o2,hz,pp⟩ k hk
  rcases (pp k).1 hk with p | p | p | p | p | p | p
  · omega
  · omega
  · omega
  · omega
  · omega
  · exact (hz k (.inl p)).2
  · exact (hz k (.inr p)).2
 stay:=by
  rintro P hh hk ⟨lx,g8,g9,g10,g11,gp,pp⟩ yk nk kp
  have K:∀k w,k=b8∨k=b9∨k=b10∨k=b11∨k=lp→hh.get k=some w→hk.get k=some w:=fun k w c q=>kp k w ((pp k).2 c) q
  exact ⟨by omega,K _ _ (by simp) g8,K _ _ (by simp) g9,K _ _ (by simp) g10,K _ _ (by simp) g11,K _ _ (by simp) gp,pp⟩
 Fv:=by
  rintro y P hh hk ⟨z1,z2,lx,g8,g9,g10,g11,gp,o1,o2,hz,pp⟩ yk nk kp
  have K:∀k w,k=b8∨k=b9∨k=b10∨k=b11∨k=lp∨Ol z1 k∨Ol z2 k→hh.get k=some w→hk.get k=some w:=fun k w c q=>kp k w ((pp k).2 c) q
  exact ⟨z1,z2,by omega,K _ _ (by simp) g8,K _ _ (by simp) g9,K _ _ (by simp) g10,K _ _ (by simp) g11,K _ _ (by simp) gp,o1.Fy fun p w i e=>K p w (by simp [i]) e,o2.Fy fun p w i e=>K p w (by simp [i]) e,fun k i=>by have:=hz k i;omega,pp⟩
 Gb:=by
  rintro y P P' hh hk ⟨lx,g8,g9,g10,g11,gp,pp⟩ ⟨z1,z2,lx',g8',g9',aiB,aiC,gp',_⟩ A
  rw[A _ _ gp] at gp'
  cases gp'
 stop:=by
  rintro a y P hh ⟨pc,op,rfl,ag,gpc,eF,hlen,hx⟩ ⟨lx,g8,g9,g10,g11,gp,pp⟩ aQ
  have c1:=od (o:= .loop .busy none (nB x b5 b8 b9 b10 b11) [39,40] nZ kJ dn) aQ gp
  have npc:pc≠lp:=fun e=>by subst e;rw[gp] at gpc;cases gpc
  have Ui:Has g (hh.put lp (some (.loop .busy none (nB x b5 b8 b9 b10 b11) [39,40] nZ kJ dn))):=fun k w c=>c1.2.2 _ _ (fun e'=>by have:=PS _ _ c;omega) (ag _ _ c)
  obtain ⟨e0,en0,he0⟩:=Fu 0
  have oc:bH e0 (hh.put lp (some (.loop .busy none (nB x b5 b8 b9 b10 b11) [39,40] nZ kJ dn))) (.slice pc 0 y.2.length y.2.length op) y.2:= .inr ⟨eF,pc,op,rfl,by omega,c1.2.2 _ _ npc gpc⟩
  have T5:=PS _ _ g5
  obtain ⟨kz,h2,z1,z2,ev,y2,n2,r8,r9,r10,r11,o1,o2,k2⟩:=Uj (d:=d) (hh:=hh.put lp (some (.loop .busy none (nB x b5 b8 b9 b10 b11) [39,40] nZ kJ dn))) (s0:=y.1) (w:=y.2) (l_:=l) (lp:=lp) (cv:= .slice pc 0 y.2.length y.2.length op) (lv:=lv) x c1.1 (bH.rows oc o! (fun _ _=>trivial)) (hlg.has Ui) hx Ik (Ui _ _ g5) (c1.2.2 _ _ o! g8) (c1.2.2 _ _ o! g9) (c1.2.2 _ _ o! g10) (c1.2.2 _ _ o! g11) o! l8 l9 Uk
  have n2':hh.nx≤h2.nx:=n2
  have gl2:=k2 _ _ o! o! o! o! c1.2.1
  have q:=Ls (d:=d+8) (args:=[.int .u64 y.1,.slice pc 0 y.2.length y.2.length op]) (jump:=some .ret) gp rfl ((abo x b5 b8 b9 b10 b11 (.int .u64 y.1) (.slice pc 0 y.2.length y.2.length op))▸abn x b5 b8 b9 b10 b11 lp y.1 (.slice pc 0 y.2.length y.2.length op) hh) gp ev (.inr (.inl ⟨rfl,rfl⟩)) gl2
  have c3:=od (o:= .loop .done (some .ret) (nB x b5 b8 b9 b10 b11) [39,40] nZ kJ dn) y2 gl2
  have i1:∀k,Ol z1 k→hh.nx≤k∧k<h2.nx:=fun k i=>o1.inZ y2 i
  have i2:∀k,Ol z2 k→hh.nx≤k∧k<h2.nx:=fun k i=>o2.inZ y2 i
  refine ⟨_,fun k=>k=b8∨k=b9∨k=b10∨k=b11∨k=lp∨Ol z1 k∨Ol z2 k,q,c3.1,n2,⟨z1,z2,Nat.lt_of_lt_of_le lx n2',c3.2.2 _ _ o! r8,c3.2.2 _ _ o! r9,c3.2.2 _ _ o! r10,c3.2.2 _ _ o! r11,c3.2.1,(o1.Fy fun p w i e=>c3.2.2 _ _ (by have:=i1 p i;omega) e).le (show e.nx≤hh.nx by omega),(o2.Fy fun p w i e=>c3.2.2 _ _ (by have:=i2 p i;omega) e).le (show e.nx≤hh.nx by omega),fun k i=>?_,fun _=>Iff.rfl⟩,fun k p=>?_,fun k w n g=>?_⟩
  · rcases i with i | i
    · have:=i1 k i;show lp<k∧k<h2.nx;omega
    · have:=i2 k i;show lp<k∧k<h2.nx;omega
  · rcases p with p | p | p | p | p | p | p
    · exact .inl ((pp k).2 (by simp [p]))
    · exact .inl ((pp k).2 (by simp [p]))
    · exact .inl ((pp k).2 (by simp [p]))
    · exact .inl ((pp k).2 (by simp [p]))
    · exact .inl ((pp k).2 (by simp [p]))
    · exact .inr (i1 k p).1
    · exact .inr (i2 k p).1
  · have nn:¬(k=b8∨k=b9∨k=b10∨k=b11∨k=lp):=fun c=>n ((pp k).2 c)
    exact c3.2.2 _ _ (fun c=>nn (by simp [c])) (k2 _ _ (fun c=>nn (by simp [c])) (fun c=>nn (by simp [c])) (fun c=>nn (by simp [c])) (fun c=>nn (by simp [c])) (c1.2.2 _ _ (fun c=>nn (by simp [c])) g))
theorem Kh {d:Nat} {h ha hh:aA} {q:aD} {l:List aK} {r:List Gate} {lv rv:AV} {m:Int} {b5 b8 b9 b10 b11 bq bl bm br pr:Nat} {opr:Bool} (x:Nat→AV) (D:List oB) (bS:Tidy h) (hqg:aF.ok h q) (hlg:aY h lv l) (Ik:l.length≤18) (hq8:q.aC.length≤8) (hgg:∀k,k<l.length→0≤(l.g k).aL∧(l.g k).aL<(q.aC.length:Int))
 (abq:Tidy ha) (aha:Has h ha) (n5:h.nx≤b5) (l5:b5<b8) (l8:b8<b9) (l9:b9<b10) (Uk:b10<b11) (l11:b11<pr)
 (g5:ha.get b5=some (.cells [lv] 27 false)) (g8:ha.get b8=some (.cells [.aP] 30 false)) (g9:ha.get b9=some (.cells [.aP] 30 false)) (g10:ha.get b10=some (.cells [.bool false] 4 false)) (g11:ha.get b11=some (.cells [Zi 0] 31 false))
 (hrv:rv= .slice pr 0 1 1 opr) (VA:r.length=1) (gpr:ha.get pr=some (.cells (List.flatMap (aF.c (α:=Gate)) r) 66 false))
 (lb:ha.nx≤bq) (dd:bq<bl∧bl<bm∧bm<br)
 (aQ:Tidy hh) (ag:Has ha hh) (gq:hh.get bq=some (.cells (aF.c q) 26 false)) (gm:hh.get bm=some (.cells [Zi m] 3 false)) (gr:hh.get br=some (.cells [rv] 69 false)) (gl:hh.get bl=some (.cells [lv] 27 false)) (aea:x 38= .func 44 [] [(AV.ptr bq 0),(AV.ptr bm 0),(AV.ptr br 0),(AV.ptr bl 0)])
 (js:∀{s0:Int} {w:List Gate},cq q l r s0=some w→tU q l r s0=w.length∧w≠ []∧w.length≤1000∧∀i,i<l.length→0≤bz w (fun u=>eU u (l.g i).time)∧bz w (fun u=>eU u (l.g i).time)<(w.length:Int)):
 ((jK m (d_ .u64 1 ((q.aC.length:Nat):Int)).toNat 0).findSome? (Al q l r)=none→∃hk,Ev env (cz (d+12)) (.rangeFunc (.tmp 38) #[39,40] nZ kJ) ⟨nB x b5 b8 b9 b10 b11,hh,D,.no⟩ .normal ⟨nB x b5 b8 b9 b10 b11,hk,.pj hh.nx::D,.no⟩∧Tidy hk∧hh.nx<hk.nx∧hk.get hh.nx=some .qQ∧hk.get b8=some (.cells [.aP] 30 false)∧hk.get b9=some (.cells [.aP] 30 false)∧hk.get b10=some (.cells [.bool false] 4 false)∧hk.get b11=some (.cells [Zi 0] 31 false)∧∀k w,k≠b8→k≠b9→k≠b10→k≠b11→hh.get k=some w→hk.get k=some w)∧
 ∀y,(jK m (d_ .u64 1 ((q.aC.length:Nat):Int)).toNat 0).findSome? (Al q l r)=some y→∃hk z1 z2,Ev env (cz (d+12)) (.rangeFunc (.tmp 38) #[39,40] nZ kJ) ⟨nB x b5 b8 b9 b10 b11,hh,D,.no⟩ .ret ⟨nB x b5 b8 b9 b10 b11,hk,.pj hh.nx::D,.no⟩∧Tidy hk∧hh.nx<hk.nx∧hk.get hh.nx=some .qQ∧hk.get b8=some (.cells [z1] 30 false)∧hk.get b9=some (.cells [z2] 30 false)∧hk.get b10=some (.cells [.bool true] 4 false)∧hk.get b11=some (.cells [Zi 0] 31 false)∧dk 3 h hk z1 (zs .i64 (dD y.1))∧dk 3 h hk z2 (zs .i64 (dC y.2 l))∧(∀k,Ol z1 k∨Ol z2 k→hh.nx<k)∧∀k w,k≠b8→k≠b9→k≠b10→k≠b11→hh.get k=some w→hk.get k=some w:=by
 have Tr:=aQ _ _ gr
 have Tpr:=abq _ _ gpr
 obtain ⟨u1,yu1,au1,nu1,xu1,ku1,wu1⟩:=mi abq g8
 obtain ⟨u2,yu2,au2,nu2,xu2,ku2,wu2⟩:=mi yu1 (ku1 _ (Has.refl _) _ _ o! g9)
 obtain ⟨u3,yu3,au3,nu3,xu3,ku3,wu3⟩:=mi yu2 (ku2 _ (Has.refl _) _ _ o! (ku1 _ (Has.refl _) _ _ o! g10))
 obtain ⟨u4,yu4,au4,nu4,xu4,ku4,wu4⟩:=mi yu3 (ku3 _ (Has.refl _) _ _ o! (ku2 _ (Has.refl _) _ _ o! (ku1 _ (Has.refl _) _ _ o! g11)))
 have au:Has u4 ha:=fun k w c=>au1 _ _ (au2 _ _ (au3 _ _ (au4 _ _ c)))
 have nu:u4.nx=ha.nx:=by omega
 have KU:∀k w,k≠b8→k≠b9→k≠b10→k≠b11→ha.get k=some w→u4.get k=some w:=fun k w c1 c2 c3 c4 c=>ku4 _ (Has.refl _) _ _ c4 (ku3 _ (Has.refl _) _ _ c3 (ku2 _ (Has.refl _) _ _ c2 (ku1 _ (Has.refl _) _ _ c1 c)))
 have hu:Has h u4:=fun k w c=>by
  have:=bS _ _ c
  exact KU _ _ o! o! o! o! (aha _ _ c)
 have nb8:u4.get b8=none:=by
  cases c:u4.get b8 with
  | none=>rfl
  | some w=>have:=au2 _ _ (au3 _ _ (au4 _ _ c));rw[nu1] at this;cases this
 have nb9:u4.get b9=none:=by
  cases c:u4.get b9 with
  | none=>rfl
  | some w=>have:=au3 _ _ (au4 _ _ c);rw[nu2] at this;cases this
 have agL:u4.get b10=none:=by
  cases c:u4.get b10 with
  | none=>rfl
  | some w=>have:=au4 _ _ c;rw[nu3] at this;cases this
 have aeb:aY u4 rv r:=by
  obtain ⟨e0,en0,he0⟩:=Fu 0
  have o:bH e0 u4 rv r:= .inr ⟨(by intro c;rw[c] at VA;cases VA),pr,opr,(by rw[hrv,VA]),o!,KU _ _ o! o! o! o! gpr⟩
  exact bH.rows o o! (fun _ _=>trivial)
 obtain ⟨h7,n7⟩:=nL (h:=hh) .qQ
 have y7:=hQ aQ n7
 have x7:=mI n7
 obtain ⟨h8,n8⟩:=nL (h:=h7) (.loop .ready none (nB x b5 b8 b9 b10 b11) (#[39,40]:Array Tmp).toList nZ kJ hh.nx)
 have y8:=hQ y7 n8
 have x8:=mI n8
 have K8:∀k w,hh.get k=some w→h8.get k=some w:=fun k w c=>hJ y7 n8 (hJ aQ n7 c)
 have hi:WiI b5 b8 b9 b10 b11 h7.nx x hh.nx (fun k=>k=b8∨k=b9∨k=b10∨k=b11∨k=h7.nx) h8:=
  ⟨by omega,K8 _ _ (ag _ _ g8),K8 _ _ (ag _ _ g9),K8 _ _ (ag _ _ g10),K8 _ _ (ag _ _ g11),km n8,fun _=>Iff.rfl⟩
 have yl:=abp (d:=d) (g:=u4) (e:=h) (l:=l) (lv:=lv) (b5:=b5) (b8:=b8) (b9:=b9) (b10:=b10) (b11:=b11) (lp:=h7.nx) x hh.nx yu4 (hlg.has hu) o! (KU _ _ o! o! o! o! g5) o! (by have:=abq _ _ g5;omega) l5 l8 l9 Uk o!
 obtain ⟨h9,e9,y9,x9',l9',iN,iS⟩:=abm (d:=d+1) (g:=u4) (h:=h8) (q:=q) (l:=l) (r:=r) (m:=m) (lv:=lv) (rv:=rv) (b:=h7.nx) (bq:=bq) (bm:=bm) (br:=br) (bl:=bl) yu4 (aF.mono hu hqg) (hlg.has hu) aeb Ik o! hq8 hgg dd o! y8 (fun k w c=>K8 _ _ (ag _ _ (au _ _ c))) o! (K8 _ _ gq) (K8 _ _ gm) (K8 _ _ gr) (K8 _ _ gl) yl (fun {s0 w hk p op} ht A hg=>by
  obtain ⟨e1,e2,e3,e4⟩:=js ht
  exact ⟨p,op,by rw[e1],A,hg,e2,e3,e4⟩) hi (fun k c=>by
  rcases c with c | c | c | c | c
  · subst c;exact ⟨nb8,by omega⟩
  · subst c;exact ⟨nb9,by omega⟩
  · subst c;exact ⟨agL,by omega⟩
  · subst c;exact ⟨nu4,by omega⟩
  · exact ⟨A3 yu4 o!,by omega⟩)
 have gd:h9.get hh.nx=some .qQ:=l9' _ _ (by rintro (c | c | c | c | c)<;>omega) (hJ y7 n8 (km n7))
 refine ⟨fun hF=>?_,fun y hF=>?_⟩
 · obtain ⟨P',⟨lx,r8,r9,r10,r11,gp9,pp⟩,pn⟩:=iN hF
   have er:=B7 (E:=env) (call:=cz (d+12)) (ts:=nB x b5 b8 b9 b10 b11) (ds:=D) (f:= .tmp 38) (ps:= #[39,40]) (aS:=nZ) (bd:=kJ) (e:= .normal) (by show some (x 38)=_;rw[aea]) n7 n8 e9 gp9 (by intro c;cases c) rfl
   have zj:=od (o:= .loop .exhausted none (nB x b5 b8 b9 b10 b11) [39,40] nZ kJ hh.nx) y9 gp9
   refine ⟨_,er,zj.1,(show hh.nx<h9.nx by omega),zj.2.2 _ _ o! gd,zj.2.2 _ _ o! r8,zj.2.2 _ _ o! r9,zj.2.2 _ _ o! r10,zj.2.2 _ _ o! r11,fun k w k1 k2 k3 k4 c=>?_⟩
   have T:=aQ _ _ c
   exact zj.2.2 _ _ o! (l9' _ _ (by rintro (c | c | c | c | c)<;>omega) (K8 _ _ c))
 · obtain ⟨P',⟨z1,z2,lx,r8,r9,r10,r11,gp9,o1,o2,hz,pp⟩,pn⟩:=iS y hF
   have er:=B7 (E:=env) (call:=cz (d+12)) (ts:=nB x b5 b8 b9 b10 b11) (ds:=D) (f:= .tmp 38) (ps:= #[39,40]) (aS:=nZ) (bd:=kJ) (e:= .ret) (by show some (x 38)=_;rw[aea]) n7 n8 e9 gp9 (by intro c;cases c) rfl
   have zj:=od (o:= .loop .exhausted (some .ret) (nB x b5 b8 b9 b10 b11) [39,40] nZ kJ hh.nx) y9 gp9
   refine ⟨_,z1,z2,er,zj.1,(show hh.nx<h9.nx by omega),zj.2.2 _ _ o! gd,zj.2.2 _ _ o! r8,zj.2.2 _ _ o! r9,zj.2.2 _ _ o! r10,zj.2.2 _ _ o! r11,o1.Fy (fun p w i e=>zj.2.2 _ _ (by have:=hz p (.inl i);omega) e),o2.Fy (fun p w i e=>zj.2.2 _ _ (by have:=hz p (.inr i);omega) e),fun k i=>by have:=hz k i;omega,fun k w k1 k2 k3 k4 c=>?_⟩
   have T:=aQ _ _ c
   exact zj.2.2 _ _ o! (l9' _ _ (by rintro (c | c | c | c | c)<;>omega) (K8 _ _ c))
def Ul (call:bh) (b:Code) (s:St) (ex:iB) (h hh:aA) (tn:(Nat→AV)→List AV) (tr:AV→AV→(Nat→AV)→List AV):Option (List Int×List Int)→Prop
 | none=>∃y hk,Ev env call (.loop b) s ex ⟨tn y,hk,[],.no⟩∧Tidy hk∧hh.nx≤hk.nx∧Has h hk
 | some r=>∃z1 z2 y hk,Ev env call (.loop b) s .ret ⟨tr z1 z2 y,hk,[],.no⟩∧Tidy hk∧hh.nx≤hk.nx∧Has h hk∧gO hk .i64 3 z1 r.1∧dk 3 h hk z1 (zs .i64 r.1)∧gO hk .i64 3 z2 r.2∧dk 3 h hk z2 (zs .i64 r.2)
section
variable {call:bh} {b:Code} {s:St} {ex:iB} {h hh hk:aA} {tn:(Nat→AV)→List AV} {tr:AV→AV→(Nat→AV)→List AV}
theorem Ul.out {i:Nat} {L:List AV} (ev:Ev env call b s (.exit i) ⟨L,hk,[],.no⟩) (y1:Tidy hk) (n1:hh.nx≤hk.nx) (a1:Has h hk) (hl:L=tn fun k=>L.getD k AV.undef):Ul call b s (.exit i) h hh tn tr none:=by
 obtain ⟨y,x⟩:=xw (tmpl:=tn) (Ev.out ev) hl
 exact ⟨y,hk,x,y1,n1,a1⟩
theorem Ul.round {L:List AV} {o:Option (List Int×List Int)} (ev:Ev env call b s .normal ⟨L,hk,[],.no⟩) (n1:hh.nx≤hk.nx) (s7:(Nat→AV)→List AV) (hl:L=s7 fun k=>L.getD k AV.undef) (ih:∀x,Ul call b ⟨s7 x,hk,[],.no⟩ ex h hk tn tr o):Ul call b s ex h hh tn tr o:=by
 have q:=ih fun k=>L.getD k AV.undef
 rw[←hl] at q
 cases o with
 | none=>
   obtain ⟨y,h2,x,y1,n2,g⟩:=q
   exact ⟨y,h2,Ev.loop ev x,y1,Nat.le_trans n1 n2,g⟩
 | some v=>
   obtain ⟨z1,z2,y,h2,x,y1,n2,g⟩:=q
   exact ⟨z1,z2,y,h2,Ev.loop ev x,y1,Nat.le_trans n1 n2,g⟩
end
theorem HJ (h:aA):gO h .i64 3 .aP []:=dk.Jq (h:=h) (n:=0) (.inl ⟨rfl,rfl⟩) rfl (by kernel_rfl) (by kernel_rfl)
theorem pkd (D D':List oB) (d:Nat) (c:Code) (ts:List AV) (h:aA) (e:iB) (h':aA) {al:List nh} {ps:List Prop} (k:Pk al [] ps) (hr:run env (cz d) 300 c ⟨ts,h,D,.no⟩ al []= .at e ⟨vf (run env (cz d) 300 c ⟨ts,h,D,.no⟩ al []),h',D',.no⟩ [] ps):Ev env (cz d) c ⟨ts,h,D,.no⟩ e ⟨vf (run env (cz d) 300 c ⟨ts,h,D,.no⟩ al []),h',D',.no⟩:=ZS k hr
structure Df (n:Nat) (h:aA) (D:List Nat):Prop where
 nd:D.Nodup
 at_:∀r∈D,n≤r∧h.get r=some .qQ
def WsL (call:bh) (b:Code) (ts:List AV) (ex:iB) (h hh:aA) (D:List Nat) (tn:(Nat→AV)→List AV) (tr:AV→AV→(Nat→AV)→List AV):Option (List Int×List Int)→Prop
 | none=>∃y hk D',Ev env call (.loop b) ⟨ts,hh,D.map .pj,.no⟩ ex ⟨tn y,hk,D'.map .pj,.no⟩∧Tidy hk∧hh.nx≤hk.nx∧Has h hk∧Df h.nx hk D'
 | some r=>∃z1 z2 y hk D',Ev env call (.loop b) ⟨ts,hh,D.map .pj,.no⟩ .ret ⟨tr z1 z2 y,hk,D'.map .pj,.no⟩∧Tidy hk∧hh.nx≤hk.nx∧Has h hk∧Df h.nx hk D'∧gO hk .i64 3 z1 r.1∧dk 3 h hk z1 (zs .i64 r.1)∧gO hk .i64 3 z2 r.2∧dk 3 h hk z2 (zs .i64 r.2)
section
variable {call:bh} {b:Code} {ts:List AV} {ex:iB} {h hh hk:aA} {D:List Nat} {tn:(Nat→AV)→List AV} {tr:AV→AV→(Nat→AV)→List AV}
theorem WsL.out {i:Nat} {L:List AV} (ev:Ev env call b ⟨ts,hh,D.map .pj,.no⟩ (.exit i) ⟨L,hk,D.map .pj,.no⟩) (y1:Tidy hk) (n1:hh.nx≤hk.nx) (a1:Has h hk) (c1:Df h.nx hk D) (hl:L=tn fun k=>L.getD k AV.undef):WsL call b ts (.exit i) h hh D tn tr none:=by
 obtain ⟨y,x⟩:=xw (tmpl:=tn) (Ev.out ev) hl
 exact ⟨y,hk,D,x,y1,n1,a1,c1⟩
theorem WsL.round {c:Nat} {L:List AV} {o:Option (List Int×List Int)} (ev:Ev env call b ⟨ts,hh,D.map .pj,.no⟩ .normal ⟨L,hk,.pj c::D.map .pj,.no⟩) (n1:hh.nx≤hk.nx) (s7:(Nat→AV)→List AV) (hl:L=s7 fun k=>L.getD k AV.undef) (ih:∀x,WsL call b (s7 x) ex h hk (c::D) tn tr o):WsL call b ts ex h hh D tn tr o:=by
 have q:=ih fun k=>L.getD k AV.undef
 rw[←hl] at q
 cases o with
 | none=>
   obtain ⟨y,h2,D',x,y1,n2,g⟩:=q
   exact ⟨y,h2,D',Ev.loop ev x,y1,Nat.le_trans n1 n2,g⟩
 | some v=>
   obtain ⟨z1,z2,y,h2,D',x,y1,n2,g⟩:=q
   exact ⟨z1,z2,y,h2,D',Ev.loop ev x,y1,Nat.le_trans n1 n2,g⟩
end
theorem Aq {n:Nat} {D:List Nat} {h:aA} (y:Tidy h) (c:Df n h D):Tidy (shut D h)∧(∀k w,w≠ .qQ→h.get k=some w→(shut D h).get k=some w)∧∀k w,k<n→h.get k=some w→(shut D h).get k=some w:=by
 have Xs:∀(D:List Nat) (h:aA) (k:Nat),k∈D→(shut D h).get k=none:=by
  intro D
  induction D with
  | nil=>intro h k m;cases m
  | cons r D ih=>
    intro h k m
    rw[shut]
    by_cases e:k∈D
    · exact ih _ _ e
    · rcases List.mem_cons.1 m with rfl | m
      · rw[oV e,aA.ck]
      · exact absurd m e
 have wF:∀k w,w≠ .qQ→h.get k=some w→(shut D h).get k=some w:=fun k w nd e=>by
  rw[oV]
  · exact e
  · intro m
    have:=(c.at_ k m).2
    rw[e] at this
    exact nd (Option.some.inj this)
 refine ⟨fun k w g=>?_,wF,fun k w hk e=>?_⟩
 · rw[rz]
   by_cases m:k∈D
   · rw[Xs D h k m] at g;cases g
   · rw[oV m] at g;exact y _ _ g
 · rw[oV]
   · exact e
   · intro m
     have:=(c.at_ k m).1
     omega
theorem dk.Aq {n:Nat} {D:List Nat} {g h:aA} {z:AV} {L:List AV} (y:Tidy h) (c:Df n h D) (o:dk 3 g h z L):dk 3 g (shut D h) z L:=by
 rcases o with ⟨rfl,e0⟩ | ⟨hn,p,op,rfl,hp,hg⟩
 · exact .inl ⟨rfl,e0⟩
 · exact .inr ⟨hn,p,op,rfl,hp,(aG.Aq y c).2.1 _ _ (by intro e;cases e) hg⟩
def kS (q:aD) (l:List aK) (r:List Gate) (m:Int):Option (Int×List Gate):=(jK m (d_ .u64 1 ((q.aC.length:Nat):Int)).toNat 0).findSome? (Al q l r)
def pg (q:aD) (l:List aK) (r:List Gate):Nat→Nat→Option (Int×List Gate)
 | 0,_=>none
 | k+1,i0=>match kS q l r ((i0:Nat):Int) with
   | some y=>some y
   | none=>pg q l r k (i0+1)
def Um (call:bh) (b:Code) (ts:List AV) (h hh:aA) (D:List Nat) (tn tr:(Nat→AV)→List AV) (Nn:aA→Prop) (Ss:(Int×List Gate)→aA→Prop):Option (Int×List Gate)→Prop
 | none=>∃y hk D',Ev env call (.loop b) ⟨ts,hh,D.map .pj,.no⟩ (.exit 0) ⟨tn y,hk,D'.map .pj,.no⟩∧Tidy hk∧hh.nx≤hk.nx∧Has h hk∧Df h.nx hk D'∧Nn hk
 | some r=>∃y hk D',Ev env call (.loop b) ⟨ts,hh,D.map .pj,.no⟩ .ret ⟨tr y,hk,D'.map .pj,.no⟩∧Tidy hk∧hh.nx≤hk.nx∧Has h hk∧Df h.nx hk D'∧Ss r hk
section
variable {call:bh} {b:Code} {ts:List AV} {h hh hk:aA} {D:List Nat} {tn tr:(Nat→AV)→List AV} {Nn:aA→Prop} {Ss:(Int×List Gate)→aA→Prop}
theorem Um.out {L:List AV} (ev:Ev env call b ⟨ts,hh,D.map .pj,.no⟩ (.exit 0) ⟨L,hk,D.map .pj,.no⟩) (y1:Tidy hk) (n1:hh.nx≤hk.nx) (a1:Has h hk) (c1:Df h.nx hk D) (q:Nn hk) (hl:L=tn fun k=>L.getD k AV.undef):Um call b ts h hh D tn tr Nn Ss none:=by
 obtain ⟨y,x⟩:=xw (tmpl:=tn) (Ev.out ev) hl
 exact ⟨y,hk,D,x,y1,n1,a1,c1,q⟩
theorem Um.ret {c:Nat} {L:List AV} {r:Int×List Gate} (ev:Ev env call b ⟨ts,hh,D.map .pj,.no⟩ .ret ⟨L,hk,.pj c::D.map .pj,.no⟩) (y1:Tidy hk) (n1:hh.nx≤hk.nx) (a1:Has h hk) (c1:Df h.nx hk (c::D)) (q:Ss r hk) (hl:L=tr fun k=>L.getD k AV.undef):Um call b ts h hh D tn tr Nn Ss (some r):=by
 obtain ⟨y,x⟩:=xw (tmpl:=tr) (Ev.ret ev) hl
 exact ⟨y,hk,c::D,x,y1,n1,a1,c1,q⟩
theorem Um.round {c:Nat} {L:List AV} {o:Option (Int×List Gate)} (ev:Ev env call b ⟨ts,hh,D.map .pj,.no⟩ .normal ⟨L,hk,.pj c::D.map .pj,.no⟩) (n1:hh.nx≤hk.nx) (s7:(Nat→AV)→List AV) (hl:L=s7 fun k=>L.getD k AV.undef) (ih:∀x,Um call b (s7 x) h hk (c::D) tn tr Nn Ss o):Um call b ts h hh D tn tr Nn Ss o:=by
 have q:=ih fun k=>L.getD k AV.undef
 rw[←hl] at q
 cases o with
 | none=>
   obtain ⟨y,h2,D',x,y1,n2,g⟩:=q
   exact ⟨y,h2,D',Ev.loop ev x,y1,Nat.le_trans n1 n2,g⟩
 | some v=>
   obtain ⟨y,h2,D',x,y1,n2,g⟩:=q
   exact ⟨y,h2,D',Ev.loop ev x,y1,Nat.le_trans n1 n2,g⟩
end
theorem Has.YO {g h h':aA} {b8 b9 b10 b11:Nat} (a:Has g h) (k:∀i w,i≠b8→i≠b9→i≠b10→i≠b11→h.get i=some w→h'.get i=some w) (y:Tidy g) (h8:g.nx≤b8) (l9:b8<b9) (Uk:b9<b10) (l11:b10<b11):Has g h':=fun i w e=>by
 have:=y _ _ e
 exact k _ _ o! o! o! o! (a _ _ e)
def yw:Code:=(Try.f9.body).getD .skip
theorem abr:Try.f9.body=some yw:=by kernel_rfl
def HK:Code:=(cc yw).getD 0 .skip
theorem HL {d:Nat} {h:aA} {lv:AV} {q:aD} {l_:List aK} {t xx:Int} {b4 b5 b8 b9 b10 b11:Nat} (bS:Tidy h) (hq:aF.ok h q) (hl:aY h lv l_) (pV:∀i,i<l_.length→0≤(l_.g i).aL∧(l_.g i).aL<(q.aC.length:Int)) (p1:l_.length≤18) (p2:q.aC.length≤8) (Qd:0≤q.bad) (hb8:q.bad≤8) (js:∀{s0:Int} {w:List Gate},cq q l_ [(⟨t,xx,xx⟩:Gate)] s0=some w→tU q l_ [(⟨t,xx,xx⟩:Gate)] s0=w.length∧w≠ []∧w.length≤1000∧∀i,i<l_.length→0≤bz w (fun u=>eU u (l_.g i).time)∧bz w (fun u=>eU u (l_.g i).time)<(w.length:Int)) (l4:h.nx≤b4) (l45:b4<b5) (l5:b5<b8) (l8:b8<b9) (l9:b9<b10) (Uk:b10<b11):∀(k i0:Nat) (x:Nat→AV) (hh:aA) (D:List Nat),i0+k=(q.bad+1).toNat→Tidy hh→Has h hh→h.nx≤hh.nx→hh.get b4=some (.cells (aF.c q) 26 false)→hh.get b5=some (.cells [lv] 27 false)→hh.get b8=some (.cells [.aP] 30 false)→hh.get b9=some (.cells [.aP] 30 false)→hh.get b10=some (.cells [.bool false] 4 false)→hh.get b11=some (.cells [Zi 0] 31 false)→Df h.nx hh D→
 Um (cz (d+12)) HK ((x 0)::(x 1)::(Zi t)::(Zi xx)::(Pt b4)::(Pt b5)::(x 6)::(x 7)::(Pt b8)::(Pt b9)::(Pt b10)::(Pt b11)::rx x 12 13 ((Zi (q.bad+1))::(Zn i0)::rx x 27 20 [])) h hh D (fun y=>rx y 0 8 ((Pt b8)::(Pt b9)::(Pt b10)::(Pt b11)::rx y 12 35 [])) (fun y=>rx y 0 8 ((Pt b8)::(Pt b9)::(Pt b10)::(Pt b11)::rx y 12 35 [])) (fun hk=>hk.get b8=some (.cells [.aP] 30 false)∧hk.get b9=some (.cells [.aP] 30 false)∧hk.get b10=some (.cells [.bool false] 4 false)∧hk.get b11=some (.cells [Zi 0] 31 false)) (fun y hk=>∃z1 z2,hk.get b8=some (.cells [z1] 30 false)∧hk.get b9=some (.cells [z2] 30 false)∧hk.get b10=some (.cells [.bool true] 4 false)∧hk.get b11=some (.cells [Zi 0] 31 false)∧dk 3 h hk z1 (zs .i64 (dD y.1))∧dk 3 h hk z2 (zs .i64 (dC y.2 l_))) (pg q l_ [(⟨t,xx,xx⟩:Gate)] k i0)
 | 0,i0,x,hh,D,kY,aQ,aW,gQ,g4,g5,g8,g9,g10,g11,cd=>by
   have T11:=aQ _ _ g11
   have q1:(decide (((i0:Nat):Int)<(q.bad+1)))=false:=d!
   have ev:=pkd (D.map .pj) (D.map .pj) (d+12) HK ((x 0)::(x 1)::(Zi t)::(Zi xx)::(Pt b4)::(Pt b5)::(x 6)::(x 7)::(Pt b8)::(Pt b9)::(Pt b10)::(Pt b11)::rx x 12 13 ((Zi (q.bad+1))::(Zn i0)::rx x 27 20 [])) hh (.exit 0) hh (VV (bK 3 false false .i64 ((i0:Nat):Int) (q.bad+1))<|BB q1<|ZZ) k!
   exact Um.out ev aQ (Nat.le_refl _) aW cd ⟨g8,g9,g10,g11⟩ k!
 | k+1,i0,x,hh,D,kY,aQ,aW,gQ,g4,g5,g8,g9,g10,g11,cd=>by
   have T11:=aQ _ _ g11
   rw[pg]
   cases hF:kS q l_ [(⟨t,xx,xx⟩:Gate)] ((i0:Nat):Int) with
   | none=>
     have q1:(decide (((i0:Nat):Int)<(q.bad+1)))=true:=d!
     obtain ⟨h2,iw,eQ,te,cO,dg⟩:=fY aQ (aX.cells [(Zi t),(Zi xx),(Zi xx)] 66 false)
     have dZ:Has h h2:=aW.trans dg
     have HM:Has hh h2:=dg
     obtain ⟨bq4,bl5,bm6,br7,h3,Hs,fA,qw,dq,Un,Uo,Up,Uq,agO⟩:=adZ (d:=d+10) eQ q ((i0:Nat):Int) (lv:=lv) (rv:=(AV.slice hh.nx 0 1 1 false)) (aF.mono dZ hq) hl.scalar (by rfl)
     have fl:Has h h3:=dZ.trans dq
     have HN:Has hh h3:=HM.trans dq
     have HO:Has h2 h3:=dq
     obtain ⟨h8,Ur,uS,PD,Us,Ut,Uu,Mz,MA,Dg⟩:=(Kh (d:=d) (h:=h) (ha:=h2) (hh:=h3) (q:=q) (l:=l_) (r:=[(⟨t,xx,xx⟩:Gate)]) (lv:=lv) (rv:=(AV.slice hh.nx 0 1 1 false)) (m:=((i0:Nat):Int)) (b5:=b5) (b8:=b8) (b9:=b9) (b10:=b10) (b11:=b11) (bq:=bq4) (bl:=bl5) (bm:=bm6) (br:=br7) (pr:=hh.nx) (opr:=false) (fun k_=>(((x 0)::(x 1)::(Zi t)::(Zi xx)::(Pt b4)::(Pt b5)::(x 6)::(x 7)::(Pt b8)::(Pt b9)::(Pt b10)::(Pt b11)::(x 12)::(Zn i0)::rx x 14 11 ((Zi (q.bad+1))::(Zn i0)::(AV.bool (decide (((i0:Nat):Int)<(q.bad+1))))::(Zn i0)::(AV.agg [(AV.str q.name),(Zi q.ai),(Zi q.af),(Zi q.aH),(Zi q.aI),(Zi q.bad),q.az])::lv::(Zn i0)::(Zi t)::(Zi xx)::(Zi xx)::(AV.agg [(Zi xx),(Zi xx)])::(AV.agg [(Zi t),(Zi xx),(Zi xx)])::(AV.slice hh.nx 0 1 1 false)::(AV.func 44 [] [(Pt bq4),(Pt bm6),(Pt br7),(Pt bl5)])::rx x 39 8 [])):List AV).getD k_ AV.undef) (D.map .pj) bS hq hl p1 p2 pV eQ dZ o! l5 l8 l9 Uk o! (dg _ _ g5) (dg _ _ g8) (dg _ _ g9) (dg _ _ g10) (dg _ _ g11) rfl rfl cO o! o! fA HO Un Up Uq Uo rfl js).1 hF
     have qE:Has h h8:=Has.YO fl Dg bS o! o! o! o!
     have u9:=fu 3 false true i0 1 o!
     have ev:=pkd (D.map .pj) (.pj h3.nx::D.map .pj) (d+12) HK ((x 0)::(x 1)::(Zi t)::(Zi xx)::(Pt b4)::(Pt b5)::(x 6)::(x 7)::(Pt b8)::(Pt b9)::(Pt b10)::(Pt b11)::rx x 12 13 ((Zi (q.bad+1))::(Zn i0)::rx x 27 20 [])) hh .normal h8 (VV (bK 3 false false .i64 ((i0:Nat):Int) (q.bad+1))<|BB q1<|CN 2<|MM (aO 26 0 (AV.agg [(AV.str q.name),(Zi q.ai),(Zi q.af),(Zi q.aH),(Zi q.aI),(Zi q.bad),q.az]) g4 k!)<|MM (aO 27 0 lv g5 k!)<|CN 6<|NN iw (fun i=>(AV.slice i 0 1 1 false))<|EE Hs<|LL Ur<|VV u9<|CC<|ZZ) k!
     have abt:Has hh h3:=HN
     exact Um.round ev o! _ k! (fun x=>HL bS hq hl pV p1 p2 Qd hb8 js l4 l45 l5 l8 l9 Uk k (i0+1) x h8 _ o! uS qE o! (Dg _ _ o! o! o! o! (dq _ _ (dg _ _ g4))) (Dg _ _ o! o! o! o! (dq _ _ (dg _ _ g5))) Ut Uu Mz MA ⟨List.nodup_cons.2 ⟨fun m=>by have:=aQ _ _ (cd.at_ _ m).2;omega,cd.nd⟩,fun r hr=>by
      rcases List.mem_cons.1 hr with rfl | hr
      · exact ⟨by omega,Us⟩
      · have c:=cd.at_ r hr
        refine ⟨c.1,Dg _ _ ?_ ?_ ?_ ?_ (abt _ _ c.2)⟩
        · intro e;subst e;rw[g8] at c;cases c.2
        · intro e;subst e;rw[g9] at c;cases c.2
        · intro e;subst e;rw[g10] at c;cases c.2
        · intro e;subst e;rw[g11] at c;cases c.2⟩)
   | some y0=>
     have q1:(decide (((i0:Nat):Int)<(q.bad+1)))=true:=d!
     obtain ⟨h2,iw,eQ,te,cO,dg⟩:=fY aQ (aX.cells [(Zi t),(Zi xx),(Zi xx)] 66 false)
     have dZ:Has h h2:=aW.trans dg
     have HM:Has hh h2:=dg
     obtain ⟨bq4,bl5,bm6,br7,h3,Hs,fA,qw,dq,Un,Uo,Up,Uq,agO⟩:=adZ (d:=d+10) eQ q ((i0:Nat):Int) (lv:=lv) (rv:=(AV.slice hh.nx 0 1 1 false)) (aF.mono dZ hq) hl.scalar (by rfl)
     have fl:Has h h3:=dZ.trans dq
     have HN:Has hh h3:=HM.trans dq
     have HO:Has h2 h3:=dq
     obtain ⟨h8,z1,z2,Ur,uS,PD,Us,Ut,Uu,Mz,MA,aec,aed,ahU,Dg⟩:=(Kh (d:=d) (h:=h) (ha:=h2) (hh:=h3) (q:=q) (l:=l_) (r:=[(⟨t,xx,xx⟩:Gate)]) (lv:=lv) (rv:=(AV.slice hh.nx 0 1 1 false)) (m:=((i0:Nat):Int)) (b5:=b5) (b8:=b8) (b9:=b9) (b10:=b10) (b11:=b11) (bq:=bq4) (bl:=bl5) (bm:=bm6) (br:=br7) (pr:=hh.nx) (opr:=false) (fun k_=>(((x 0)::(x 1)::(Zi t)::(Zi xx)::(Pt b4)::(Pt b5)::(x 6)::(x 7)::(Pt b8)::(Pt b9)::(Pt b10)::(Pt b11)::(x 12)::(Zn i0)::rx x 14 11 ((Zi (q.bad+1))::(Zn i0)::(AV.bool (decide (((i0:Nat):Int)<(q.bad+1))))::(Zn i0)::(AV.agg [(AV.str q.name),(Zi q.ai),(Zi q.af),(Zi q.aH),(Zi q.aI),(Zi q.bad),q.az])::lv::(Zn i0)::(Zi t)::(Zi xx)::(Zi xx)::(AV.agg [(Zi xx),(Zi xx)])::(AV.agg [(Zi t),(Zi xx),(Zi xx)])::(AV.slice hh.nx 0 1 1 false)::(AV.func 44 [] [(Pt bq4),(Pt bm6),(Pt br7),(Pt bl5)])::rx x 39 8 [])):List AV).getD k_ AV.undef) (D.map .pj) bS hq hl p1 p2 pV eQ dZ o! l5 l8 l9 Uk o! (dg _ _ g5) (dg _ _ g8) (dg _ _ g9) (dg _ _ g10) (dg _ _ g11) rfl rfl cO o! o! fA HO Un Up Uq Uo rfl js).2 y0 hF
     have qE:Has h h8:=Has.YO fl Dg bS o! o! o! o!
     have ev:=pkd (D.map .pj) (.pj h3.nx::D.map .pj) (d+12) HK ((x 0)::(x 1)::(Zi t)::(Zi xx)::(Pt b4)::(Pt b5)::(x 6)::(x 7)::(Pt b8)::(Pt b9)::(Pt b10)::(Pt b11)::rx x 12 13 ((Zi (q.bad+1))::(Zn i0)::rx x 27 20 [])) hh .ret h8 (VV (bK 3 false false .i64 ((i0:Nat):Int) (q.bad+1))<|BB q1<|CN 2<|MM (aO 26 0 (AV.agg [(AV.str q.name),(Zi q.ai),(Zi q.af),(Zi q.aH),(Zi q.aI),(Zi q.bad),q.az]) g4 k!)<|MM (aO 27 0 lv g5 k!)<|CN 6<|NN iw (fun i=>(AV.slice i 0 1 1 false))<|EE Hs<|LL Ur<|ZZ) k!
     have abt:Has hh h3:=HN
     exact Um.ret (r:=y0) ev uS o! qE ⟨List.nodup_cons.2 ⟨fun m=>by have:=aQ _ _ (cd.at_ _ m).2;omega,cd.nd⟩,fun r hr=>by
      rcases List.mem_cons.1 hr with rfl | hr
      · exact ⟨by omega,Us⟩
      · have c:=cd.at_ r hr
        refine ⟨c.1,Dg _ _ ?_ ?_ ?_ ?_ (abt _ _ c.2)⟩
        · intro e;subst e;rw[g8] at c;cases c.2
        · intro e;subst e;rw[g9] at c;cases c.2
        · intro e;subst e;rw[g10] at c;cases c.2
        · intro e;subst e;rw[g11] at c;cases c.2⟩ ⟨z1,z2,Ut,Uu,Mz,MA,aec,aed⟩ k!
theorem abu {h:aA} {ts:List AV} {b8 b9 b10 b11:Nat} {z1 z2 v3 v4:AV} (e8:ts.getD 8 AV.undef= .ptr b8 0) (e9:ts.getD 9 AV.undef= .ptr b9 0) (X4:ts.getD 10 AV.undef= .ptr b10 0) (e11:ts.getD 11 AV.undef= .ptr b11 0) (l8:bk env h 30 (.ptr b8 0)=some z1) (l9:bk env h 30 (.ptr b9 0)=some z2) (Uk:bk env h 4 (.ptr b10 0)=some v3) (l11:bk env h 31 (.ptr b11 0)=some v4):(jL env h ts Try.f9.results.toList).map fR=some (.tuple [z1,z2,v3,v4]):=by
 rw[show Try.f9.results.toList=[.cell 8 30,.cell 9 30,.cell 10 4,.cell 11 31] from by kernel_rfl]
 simp only[jL,e8,e9,X4,e11,l8,l9,Uk,l11]
 rfl
theorem wq {d:Nat} {f:FuncId} {args:List AV} {h h':aA} {z1 z2 w w2:AV} {A B:List Int} (y:Tidy h) (hm:M0 f args h=none) (hd:uJ env (fF env M0 d) f args h (.tuple [z1,z2,w,w2]) h') (y1:Tidy h') (n1:h.nx≤h'.nx) (a1:Has h h') (q1:gO h' .i64 3 z1 A) (o1:dk 3 h h' z1 (zs .i64 A)) (q2:gO h' .i64 3 z2 B) (o2:dk 3 h h' z2 (zs .i64 B)):
 ∃hk,cz (d+1) (.fn f) args h= .ret (.tuple [z1,z2,w,w2]) hk∧Grow h hk∧gO hk .i64 3 z1 A∧gO hk .i64 3 z2 B:=by
 by_cases hv:Has h h'∧AV.within h.nx 20 (.tuple [z1,z2,w,w2])=true
 · have v1:AV.within h.nx (18+1) z1=true:=pD hv.2 (by simp)
   have v2:AV.within h.nx (18+1) z2=true:=pD hv.2 (by simp)
   exact ⟨h,aE hm hd hv.1 hv.2,Grow.refl y,o1.Jq v1 (by kernel_rfl) (by kernel_rfl),o2.Jq v2 (by kernel_rfl) (by kernel_rfl)⟩
 · exact ⟨h',qp hm hd hv,⟨y1,a1,n1⟩,q1,q2⟩
theorem Dh (c:List Gate) (l:List aK):∀(k i:Nat) (v:List Int),(ey c l k i v).length=v.length+k
 | 0,i,v=>rfl
 | k+1,i,v=>by rw[ey,Dh c l k (i+1),List.length_append,List.length_singleton];omega
theorem Di (s:Int):∀(k i:Nat) (v:List Int),(eV s k i v).length≤v.length+k
 | 0,i,v=>Nat.le_refl _
 | k+1,i,v=>by
   rw[eV]
   cases tQ s ((i:Nat):Int) with
   | true=>rw[ak];have:=Di s k (i+1) (v++[((i:Nat):Int)]);rw[List.length_append,List.length_singleton] at this;omega
   | false=>rw[aj];have:=Di s k (i+1) v;omega
theorem MB (s:Int):(dD s).length<2^60:=by
 have:=Di s (Int.toNat 8) 0 []
 rw[dD]
 have e:Int.toNat 8=8:=rfl
 rw[e] at this ⊢
 rw[List.length_nil] at this
 omega
theorem MC (c:List Gate) {l:List aK} (h:l.length≤18):(dC c l).length<2^60:=by
 rw[dC,Dh,List.length_nil];omega
def ae (q:aD) (l_:List aK) (t xx:Int):List Int×List Int×Bool×Int:=bif !decide (bj q l_ t=0) then ([],[],false,bj q l_ t) else (match pg q l_ [(⟨t,xx,xx⟩:Gate)] (q.bad+1).toNat 0 with | none=>([],[],false,0) | some y=>(dD y.1,dC y.2 l_,true,0))
theorem Ki {d:Nat} {h:aA} {lv:AV} {q:aD} {l_:List aK} {t xx:Int} (bS:Tidy h) (hq:aF.ok h q) (hl:aY h lv l_) (p1:bj q l_ t=0→l_.length≤18) (js:bj q l_ t=0→∀{s0:Int} {w:List Gate},cq q l_ [(⟨t,xx,xx⟩:Gate)] s0=some w→tU q l_ [(⟨t,xx,xx⟩:Gate)] s0=w.length∧w≠ []∧w.length≤1000∧∀i,i<l_.length→0≤bz w (fun u=>eU u (l_.g i).time)∧bz w (fun u=>eU u (l_.g i).time)<(w.length:Int)):
 ∃z1 z2 hk,cz (d+13) (.fn 9) [.agg (aF.c q),lv,Zi t,Zi xx] h= .ret (.tuple [z1,z2,.bool (ae q l_ t xx).2.2.1,Zi (ae q l_ t xx).2.2.2]) hk∧Grow h hk∧gO hk .i64 3 z1 (ae q l_ t xx).1∧gO hk .i64 3 z2 (ae q l_ t xx).2.1:=by
 rcases bZq (!decide (bj q l_ t=0)) with f0 | f0
 · rw[ae,f0,ak]
   obtain ⟨h1,cj,cg,iu,bf,cf⟩:=fY bS (aX.cells [(AV.str q.name),(Zi q.ai),(Zi q.af),(Zi q.aH),(Zi q.aI),(Zi q.bad),q.az] 26 false)
   have bA:Has h h1:=cf
   obtain ⟨h2,iw,eQ,te,cO,dg⟩:=fY cg (aX.cells [lv] 27 false)
   have dZ:Has h h2:=bA.trans dg
   obtain ⟨h3,tf,fA,LD,pT,dq⟩:=fY eQ (aX.cells [AV.aP] 30 false)
   have fl:Has h h3:=dZ.trans dq
   obtain ⟨h4,HF,oh,Ps,zl,mR⟩:=fY fA (aX.cells [AV.aP] 30 false)
   have nO:Has h h4:=fl.trans mR
   obtain ⟨h5,Uv,sh,WQ,GW,ph⟩:=fY oh (aX.cells [(AV.bool false)] 4 false)
   have nN:Has h h5:=nO.trans ph
   obtain ⟨h6,tu,qx,LP,vU,gC⟩:=fY sh (aX.cells [(Zi 0)] 31 false)
   have pt:Has h h6:=nN.trans gC
   have k7:=pa (d:=d) q l_ t (aF.mono pt hq) (hl.has pt) qx
   have q8:(!decide ((bj q l_ t)=0))=true:=d!
   obtain ⟨h9,LI,nM,SN,Cq,l7⟩:=AE (t:=30) (n:=1) (i:=h2.nx) (o:=0) (v:=AV.aP) (N:=[AV.aP]) qx (gC _ _ (ph _ _ (mR _ _ pT))) k! rfl k! k! (by simp only[AV.cells,List.all_cons,List.all_nil,Bool.and_true,Bool.and_self,eL,dw,eM,eN,cH,gZ,g_,hB,hD,hI,eO])
   have jM:Has h h9:=Has.cS pt l7 bS o!
   obtain ⟨mA,aef,fZ,TG,yi,HQ⟩:=AE (t:=30) (n:=1) (i:=h3.nx) (o:=0) (v:=AV.aP) (N:=[AV.aP]) nM (l7 _ _ o! (gC _ _ (ph _ _ zl))) k! rfl k! k! (by simp only[AV.cells,List.all_cons,List.all_nil,Bool.and_true,Bool.and_self,eL,dw,eM,eN,cH,gZ,g_,hB,hD,hI,eO])
   have ik:Has h mA:=Has.cS jM HQ bS o!
   obtain ⟨qH,C2,tN,N5,kr,dv⟩:=AE (t:=4) (n:=1) (i:=h4.nx) (o:=0) (v:=(AV.bool false)) (N:=[(AV.bool false)]) fZ (HQ _ _ o! (l7 _ _ o! (gC _ _ GW))) k! rfl k! k! (by simp only[AV.cells,List.all_cons,List.all_nil,Bool.and_true,Bool.and_self,eL,dw,eM,eN,cH,gZ,g_,hB,hD,hI,eO])
   have kQ:Has h qH:=Has.cS ik dv bS o!
   obtain ⟨uR,qK,tj,NF,f_,cJ⟩:=AE (t:=31) (n:=1) (i:=h5.nx) (o:=0) (v:=(Zi (bj q l_ t))) (N:=[(Zi (bj q l_ t))]) tN (dv _ _ o! (HQ _ _ o! (l7 _ _ o! vU))) k! rfl k! k! (by simp only[AV.cells,List.all_cons,List.all_nil,Bool.and_true,Bool.and_self,eL,dw,eM,eN,cH,gZ,g_,hB,hD,hI,eO])
   have tk:Has h uR:=Has.cS kQ cJ bS o!
   have ev:=pk (d+12) yw ((AV.agg [(AV.str q.name),(Zi q.ai),(Zi q.af),(Zi q.aH),(Zi q.aI),(Zi q.bad),q.az])::lv::(Zi t)::(Zi xx)::iL 43) h .ret uR (NN cj (fun i=>(Pt i))<|AA (.a (aX.cells [lv] 27 false) (Pt h1.nx) h2)<|HH iw<|HH (show ∃mk:Nat→AV,some (aX.cells (AV.cells lv) 27 false,fun i=>AV.ptr i 0)=some (aX.cells [lv] 27 false,mk)∧mk h1.nx=(Pt h1.nx) from ⟨_,(by rw[lY hl.scalar]),rfl⟩)<|NN tf (fun i=>(Pt i))<|NN HF (fun i=>(Pt i))<|NN Uv (fun i=>(Pt i))<|NN tu (fun i=>(Pt i))<|MM (aO 26 0 (AV.agg [(AV.str q.name),(Zi q.ai),(Zi q.af),(Zi q.aH),(Zi q.aI),(Zi q.bad),q.az]) (gC _ _ (ph _ _ (mR _ _ (dq _ _ (dg _ _ bf))))) k!)<|MM (aO 27 0 lv (gC _ _ (ph _ _ (mR _ _ (dq _ _ cO)))) k!)<|CC<|EE k7<|CN 2<|VV (kF 31 false true .i64 (bj q l_ t) 0)<|BC q8<|SS LI<|SS aef<|SS C2<|SS qK<|ZZ) k!
   obtain ⟨hk,e,q⟩:=wq bS rfl (ba (v:= .tuple [.aP,.aP,.bool false,Zi (bj q l_ t)]) Try.func9 abr k! (.inr rfl) ev (abu (h:=uR) k! k! k! k! (aO 30 0 AV.aP (cJ _ _ o! (dv _ _ o! (HQ _ _ o! Cq))) k!) (aO 30 0 AV.aP (cJ _ _ o! (dv _ _ o! yi)) k!) (aO 4 0 (AV.bool false) (cJ _ _ o! kr) k!) (aO 31 0 (Zi (bj q l_ t)) f_ k!))) tj o! tk (HJ _) (.inl ⟨rfl,rfl⟩) (HJ _) (.inl ⟨rfl,rfl⟩)
   exact ⟨_,_,hk,e,q⟩
 · have f0':bj q l_ t=0:=by cases hd:decide (bj q l_ t=0) with | true=>exact of_decide_eq_true hd | false=>rw[hd] at f0;cases f0
   have p1:=p1 f0'
   have js:=fun {s0:Int} {w:List Gate}=>js f0' (s0:=s0) (w:=w)
   have RF_:=NU (yu f0').1
   have pV:∀i,i<l_.length→0≤(l_.g i).aL∧(l_.g i).aL<(q.aC.length:Int):=fun i hi=>(RF_.read i hi).1
   have p2:=RF_.bad.2.2
   have Qd:0≤q.bad:=RF_.bad.1
   have hb8:q.bad≤8:=by have:=RF_.bad;omega
   rw[ae,f0,aj]
   rcases Qf:pg q l_ [(⟨t,xx,xx⟩:Gate)] (q.bad+1).toNat 0 with _ | y0
   · skip
     obtain ⟨h1,cj,cg,iu,bf,cf⟩:=fY bS (aX.cells [(AV.str q.name),(Zi q.ai),(Zi q.af),(Zi q.aH),(Zi q.aI),(Zi q.bad),q.az] 26 false)
     have bA:Has h h1:=cf
     obtain ⟨h2,iw,eQ,te,cO,dg⟩:=fY cg (aX.cells [lv] 27 false)
     have dZ:Has h h2:=bA.trans dg
     obtain ⟨h3,tf,fA,LD,pT,dq⟩:=fY eQ (aX.cells [AV.aP] 30 false)
     have fl:Has h h3:=dZ.trans dq
     obtain ⟨h4,HF,oh,Ps,zl,mR⟩:=fY fA (aX.cells [AV.aP] 30 false)
     have nO:Has h h4:=fl.trans mR
     obtain ⟨h5,Uv,sh,WQ,GW,ph⟩:=fY oh (aX.cells [(AV.bool false)] 4 false)
     have nN:Has h h5:=nO.trans ph
     obtain ⟨h6,tu,qx,LP,vU,gC⟩:=fY sh (aX.cells [(Zi 0)] 31 false)
     have pt:Has h h6:=nN.trans gC
     have k7:=pa (d:=d) q l_ t (aF.mono pt hq) (hl.has pt) qx
     have q8:(!decide ((bj q l_ t)=0))=false:=d!
     have w9:IntKind.i64.wrap (q.bad+1)=q.bad+1:=wrap_i64 o! o!
     have SL:=HL (d:=d) (t:=t) (xx:=xx) (b4:=h.nx) (b5:=h1.nx) (b8:=h2.nx) (b9:=h3.nx) (b10:=h4.nx) (b11:=h5.nx) bS hq hl pV p1 p2 Qd hb8 js o! o! o! o! o! o! (q.bad+1).toNat 0 (fun k_=>(((AV.agg [(AV.str q.name),(Zi q.ai),(Zi q.af),(Zi q.aH),(Zi q.aI),(Zi q.bad),q.az])::lv::(Zi t)::(Zi xx)::(Pt h.nx)::(Pt h1.nx)::AV.undef::AV.undef::(Pt h2.nx)::(Pt h3.nx)::(Pt h4.nx)::(Pt h5.nx)::(Zi (bj q l_ t))::AV.undef::AV.undef::AV.undef::(AV.agg [(AV.str q.name),(Zi q.ai),(Zi q.af),(Zi q.aH),(Zi q.aI),(Zi q.bad),q.az])::lv::(Zi t)::(Zi (bj q l_ t))::(Zi (bj q l_ t))::(AV.bool (!decide ((bj q l_ t)=0)))::AV.undef::(AV.ptr h.nx 5)::(Zi q.bad)::(Zi (q.bad+1))::(Zi 0)::iL 20):List AV).getD k_ AV.undef) h6 [] o! qx pt o! (gC _ _ (ph _ _ (mR _ _ (dq _ _ (dg _ _ bf))))) (gC _ _ (ph _ _ (mR _ _ (dq _ _ cO)))) (gC _ _ (ph _ _ (mR _ _ pT))) (gC _ _ (ph _ _ zl)) (gC _ _ GW) vU ⟨List.nodup_nil,fun r hr=>by cases hr⟩
     rw[Qf] at SL
     obtain ⟨agP,mA,D_,HR,fZ,Cg,MD,Qz,g8_,g9_,Xt,Xu⟩:=SL
     have ik:Has h mA:=MD
     obtain ⟨uR,qK,tj,NF,f_,cJ⟩:=AE (t:=30) (n:=1) (i:=h2.nx) (o:=0) (v:=AV.aP) (N:=[AV.aP]) fZ g8_ k! rfl k! k! (by simp only[AV.cells,List.all_cons,List.all_nil,Bool.and_true,Bool.and_self,eL,dw,eM,eN,cH,gZ,g_,hB,hD,hI,eO])
     have tk:Has h uR:=Has.cS ik cJ bS o!
     obtain ⟨pX,TO,pE,adR,TP,wm⟩:=AE (t:=30) (n:=1) (i:=h3.nx) (o:=0) (v:=AV.aP) (N:=[AV.aP]) tj (cJ _ _ o! g9_) k! rfl k! k! (by simp only[AV.cells,List.all_cons,List.all_nil,Bool.and_true,Bool.and_self,eL,dw,eM,eN,cH,gZ,g_,hB,hD,hI,eO])
     have ma:Has h pX:=Has.cS tk wm bS o!
     obtain ⟨G7,SQ,ti,Yg,JB,vS⟩:=AE (t:=4) (n:=1) (i:=h4.nx) (o:=0) (v:=(AV.bool false)) (N:=[(AV.bool false)]) pE (wm _ _ o! (cJ _ _ o! Xt)) k! rfl k! k! (by simp only[AV.cells,List.all_cons,List.all_nil,Bool.and_true,Bool.and_self,eL,dw,eM,eN,cH,gZ,g_,hB,hD,hI,eO])
     have Cr:Has h G7:=Has.cS ma vS bS o!
     obtain ⟨Qs,aeg,SX,ahW,aeh,Dj⟩:=AE (t:=31) (n:=1) (i:=h5.nx) (o:=0) (v:=(Zi 0)) (N:=[(Zi 0)]) ti (vS _ _ o! (wm _ _ o! (cJ _ _ o! Xu))) k! rfl k! k! (by simp only[AV.cells,List.all_cons,List.all_nil,Bool.and_true,Bool.and_self,eL,dw,eM,eN,cH,gZ,g_,hB,hD,hI,eO])
     have NH:Has h Qs:=Has.cS Cr Dj bS o!
     have ev:=pkd [] (D_.map .pj) (d+12) yw ((AV.agg [(AV.str q.name),(Zi q.ai),(Zi q.af),(Zi q.aH),(Zi q.aI),(Zi q.bad),q.az])::lv::(Zi t)::(Zi xx)::iL 43) h .ret Qs (NN cj (fun i=>(Pt i))<|AA (.a (aX.cells [lv] 27 false) (Pt h1.nx) h2)<|HH iw<|HH (show ∃mk:Nat→AV,some (aX.cells (AV.cells lv) 27 false,fun i=>AV.ptr i 0)=some (aX.cells [lv] 27 false,mk)∧mk h1.nx=(Pt h1.nx) from ⟨_,(by rw[lY hl.scalar]),rfl⟩)<|NN tf (fun i=>(Pt i))<|NN HF (fun i=>(Pt i))<|NN Uv (fun i=>(Pt i))<|NN tu (fun i=>(Pt i))<|MM (aO 26 0 (AV.agg [(AV.str q.name),(Zi q.ai),(Zi q.af),(Zi q.aH),(Zi q.aI),(Zi q.bad),q.az]) (gC _ _ (ph _ _ (mR _ _ (dq _ _ (dg _ _ bf))))) k!)<|MM (aO 27 0 lv (gC _ _ (ph _ _ (mR _ _ (dq _ _ cO)))) k!)<|CC<|EE k7<|CN 2<|VV (kF 31 false true .i64 (bj q l_ t) 0)<|BC q8<|MM (aO 3 5 (Zi q.bad) (gC _ _ (ph _ _ (mR _ _ (dq _ _ (dg _ _ bf))))) k!)<|VV (OW 3 false true w9)<|CC<|LL HR<|SS qK<|SS TO<|SS SQ<|SS aeg<|ZZ) k!
     have nb_:∀{r b:Nat} {w:aX},r∈D_→mA.get b=some w→w≠ .qQ→r≠b:=fun {r b w} hr e n c=>by subst c;have:=(Qz.at_ r hr).2;rw[e] at this;exact n (Option.some.inj this)
     have abv:Df h.nx Qs D_:=⟨Qz.nd,fun r hr=>⟨(Qz.at_ r hr).1,Dj _ _ (nb_ hr Xu (by intro c;cases c)) (vS _ _ (nb_ hr Xt (by intro c;cases c)) (wm _ _ (nb_ hr g9_ (by intro c;cases c)) (cJ _ _ (nb_ hr g8_ (by intro c;cases c)) (Qz.at_ r hr).2)))⟩⟩
     obtain ⟨s1,s2,s3⟩:=Aq SX abv
     obtain ⟨hk,e,q⟩:=wq bS rfl (Lt (L:=D_) (v:= .tuple [.aP,.aP,.bool false,Zi 0]) Try.func9 abr k! (.inr rfl) ev abv.nd (fun r hr=>(abv.at_ r hr).2) (abu (h:=(shut D_ Qs)) k! k! k! k! (aO 30 0 AV.aP (s2 _ _ (by intro e;cases e) (Dj _ _ o! (vS _ _ o! (wm _ _ o! f_)))) k!) (aO 30 0 AV.aP (s2 _ _ (by intro e;cases e) (Dj _ _ o! (vS _ _ o! TP))) k!) (aO 4 0 (AV.bool false) (s2 _ _ (by intro e;cases e) (Dj _ _ o! JB)) k!) (aO 31 0 (Zi 0) (s2 _ _ (by intro e;cases e) aeh) k!))) s1 (by rw[rz];omega) (fun k w e=>s3 k w (bS _ _ e) (NH _ _ e)) (HJ _) (.inl ⟨rfl,rfl⟩) (HJ _) (.inl ⟨rfl,rfl⟩)
     exact ⟨_,_,hk,e,q⟩
   · skip
     obtain ⟨h1,cj,cg,iu,bf,cf⟩:=fY bS (aX.cells [(AV.str q.name),(Zi q.ai),(Zi q.af),(Zi q.aH),(Zi q.aI),(Zi q.bad),q.az] 26 false)
     have bA:Has h h1:=cf
     obtain ⟨h2,iw,eQ,te,cO,dg⟩:=fY cg (aX.cells [lv] 27 false)
     have dZ:Has h h2:=bA.trans dg
     obtain ⟨h3,tf,fA,LD,pT,dq⟩:=fY eQ (aX.cells [AV.aP] 30 false)
     have fl:Has h h3:=dZ.trans dq
     obtain ⟨h4,HF,oh,Ps,zl,mR⟩:=fY fA (aX.cells [AV.aP] 30 false)
     have nO:Has h h4:=fl.trans mR
     obtain ⟨h5,Uv,sh,WQ,GW,ph⟩:=fY oh (aX.cells [(AV.bool false)] 4 false)
     have nN:Has h h5:=nO.trans ph
     obtain ⟨h6,tu,qx,LP,vU,gC⟩:=fY sh (aX.cells [(Zi 0)] 31 false)
     have pt:Has h h6:=nN.trans gC
     have k7:=pa (d:=d) q l_ t (aF.mono pt hq) (hl.has pt) qx
     have q8:(!decide ((bj q l_ t)=0))=false:=d!
     have w9:IntKind.i64.wrap (q.bad+1)=q.bad+1:=wrap_i64 o! o!
     have SL:=HL (d:=d) (t:=t) (xx:=xx) (b4:=h.nx) (b5:=h1.nx) (b8:=h2.nx) (b9:=h3.nx) (b10:=h4.nx) (b11:=h5.nx) bS hq hl pV p1 p2 Qd hb8 js o! o! o! o! o! o! (q.bad+1).toNat 0 (fun k_=>(((AV.agg [(AV.str q.name),(Zi q.ai),(Zi q.af),(Zi q.aH),(Zi q.aI),(Zi q.bad),q.az])::lv::(Zi t)::(Zi xx)::(Pt h.nx)::(Pt h1.nx)::AV.undef::AV.undef::(Pt h2.nx)::(Pt h3.nx)::(Pt h4.nx)::(Pt h5.nx)::(Zi (bj q l_ t))::AV.undef::AV.undef::AV.undef::(AV.agg [(AV.str q.name),(Zi q.ai),(Zi q.af),(Zi q.aH),(Zi q.aI),(Zi q.bad),q.az])::lv::(Zi t)::(Zi (bj q l_ t))::(Zi (bj q l_ t))::(AV.bool (!decide ((bj q l_ t)=0)))::AV.undef::(AV.ptr h.nx 5)::(Zi q.bad)::(Zi (q.bad+1))::(Zi 0)::iL 20):List AV).getD k_ AV.undef) h6 [] o! qx pt o! (gC _ _ (ph _ _ (mR _ _ (dq _ _ (dg _ _ bf))))) (gC _ _ (ph _ _ (mR _ _ (dq _ _ cO)))) (gC _ _ (ph _ _ (mR _ _ pT))) (gC _ _ (ph _ _ zl)) (gC _ _ GW) vU ⟨List.nodup_nil,fun r hr=>by cases hr⟩
     rw[Qf] at SL
     obtain ⟨agP,mA,D_,HR,fZ,Cg,MD,Qz,z1,z2,g8_,g9_,Xt,Xu,o1_,o2_⟩:=SL
     have ik:Has h mA:=MD
     have ev:=pkd [] (D_.map .pj) (d+12) yw ((AV.agg [(AV.str q.name),(Zi q.ai),(Zi q.af),(Zi q.aH),(Zi q.aI),(Zi q.bad),q.az])::lv::(Zi t)::(Zi xx)::iL 43) h .ret mA (NN cj (fun i=>(Pt i))<|AA (.a (aX.cells [lv] 27 false) (Pt h1.nx) h2)<|HH iw<|HH (show ∃mk:Nat→AV,some (aX.cells (AV.cells lv) 27 false,fun i=>AV.ptr i 0)=some (aX.cells [lv] 27 false,mk)∧mk h1.nx=(Pt h1.nx) from ⟨_,(by rw[lY hl.scalar]),rfl⟩)<|NN tf (fun i=>(Pt i))<|NN HF (fun i=>(Pt i))<|NN Uv (fun i=>(Pt i))<|NN tu (fun i=>(Pt i))<|MM (aO 26 0 (AV.agg [(AV.str q.name),(Zi q.ai),(Zi q.af),(Zi q.aH),(Zi q.aI),(Zi q.bad),q.az]) (gC _ _ (ph _ _ (mR _ _ (dq _ _ (dg _ _ bf))))) k!)<|MM (aO 27 0 lv (gC _ _ (ph _ _ (mR _ _ (dq _ _ cO)))) k!)<|CC<|EE k7<|CN 2<|VV (kF 31 false true .i64 (bj q l_ t) 0)<|BC q8<|MM (aO 3 5 (Zi q.bad) (gC _ _ (ph _ _ (mR _ _ (dq _ _ (dg _ _ bf))))) k!)<|VV (OW 3 false true w9)<|CC<|LL HR<|ZZ) k!
     obtain ⟨s1,s2,s3⟩:=Aq fZ Qz
     obtain ⟨hk,e,q⟩:=wq bS rfl (Lt (L:=D_) (v:= .tuple [z1,z2,.bool true,Zi 0]) Try.func9 abr k! (.inr rfl) ev Qz.nd (fun r hr=>(Qz.at_ r hr).2) (abu (h:=(shut D_ mA)) k! k! k! k! (aO 30 0 z1 (s2 _ _ (by intro e;cases e) g8_) k!) (aO 30 0 z2 (s2 _ _ (by intro e;cases e) g9_) k!) (aO 4 0 (AV.bool true) (s2 _ _ (by intro e;cases e) Xt) k!) (aO 31 0 (Zi 0) (s2 _ _ (by intro e;cases e) Xu) k!))) s1 (by rw[rz];omega) (fun k w e=>s3 k w (bS _ _ e) (ik _ _ e)) ((o1_.Aq fZ Qz).zs (MB _) k! k!) (o1_.Aq fZ Qz) ((o2_.Aq fZ Qz).zs (MC _ p1) k! k!) (o2_.Aq fZ Qz)
     exact ⟨_,_,hk,e,q⟩
theorem Fz (q:aD) (r:aK) (s0:Int):(dH q r s0).time=r.time:=by
 rw[dH];cases tQ s0 r.aL<;>rfl
theorem abw {q:aD} {l:List aK} {r:List Gate} (hl:l.length≤18) (hr:r.length≤1) {s0:Int} {w:List Gate} (e:cq q l r s0=some w):tU q l r s0=w.length∧w≠ []∧w.length≤1000∧∀i,i<l.length→0≤bz w (fun u=>eU u (l.g i).time)∧bz w (fun u=>eU u (l.g i).time)<(w.length:Int):=by
 obtain ⟨d1,d2⟩:=My e
 have len:w.length=1+r.length+l.length:=by rw[d1,pM]
 refine ⟨by rw[adY,d1],fun c=>by rw[c] at len;simp at len;omega,by omega,fun i hi=>?_⟩
 obtain ⟨j,e1,e2,e3⟩:=Mw (w:=w) (t:=(l.g i).time) (by
  obtain ⟨j,j1,j2⟩:=d2 (dH q (l.g i) s0) (by rw[pe];exact List.mem_append_right _ (List.mem_map.2 ⟨_,lW hi,rfl⟩))
  exact ⟨j,j1,by rw[j2,Fz]⟩)
 exact ⟨by rw[e1];omega,by rw[e1];omega⟩
theorem rQ {d:Nat} {h:aA} {lv:AV} {q:aD} {l_:List aK} {t xx:Int} (bS:Tidy h) (hq:aF.ok h q) (hl:aY h lv l_) (p1:l_.length≤18∨64<l_.length):
 ∃z1 z2 hk,cz (d+13) (.fn 9) [.agg (aF.c q),lv,Zi t,Zi xx] h= .ret (.tuple [z1,z2,.bool (ae q l_ t xx).2.2.1,Zi (ae q l_ t xx).2.2.2]) hk∧Grow h hk∧gO hk .i64 3 z1 (ae q l_ t xx).1∧gO hk .i64 3 z2 (ae q l_ t xx).2.1:=
 Ki bS hq hl (fun e=>(Ke e p1).2.1) fun e=>abw (Ke e p1).2.1 (by simp)
theorem PT {q:aD} {l:List aK} {t x:Int} (h:(ae q l t x).2.2.2=0):bj q l t=0:=by
 rw[ae] at h
 by_cases a:bj q l t=0
 · exact a
 · rw[decide_eq_false a] at h;exact h
theorem uC {q:aD} {l:List aK} {t x:Int} (h:(ae q l t x).2.2.2=0):(∀i,i<l.length→0≤(l.g i).aL∧(l.g i).aL<(q.aC.length:Int))∧l.length≤64:=by
 have a:=NU (yu (PT h)).1
 exact ⟨fun i hi=>(a.read i hi).1,a.r5⟩
def KX (q:aD) (l:List aK) (s:Nat) (t x:Int) (c:bC):Prop:=KS q l s c∨c=⟨t,x,x⟩
section
variable {q:aD} {l:List aK} (f:RF q l) {s:Nat} (hs:s<256) {t x:Int} (t0:0≤t) (t1:t≤100000) (x0: -1000000000000≤x) (x1:x≤1000000000000)
include f hs t0 t1 x0 x1
theorem ME:J1 (lH (pe q l [(⟨t,x,x⟩:Gate)] ((s:Nat):Int)))∧∀c,KG (lH (pe q l [(⟨t,x,x⟩:Gate)] ((s:Nat):Int))) c↔KX q l s t x c:=by
 have fs:=f.start
 have k0:KB (kn (⟨0,q.ai,q.af⟩:Gate)):=⟨⟨by simp [kn],by simp [kn]⟩,by simp only[kn];omega,by simp only[kn];omega,by simp only[kn];omega,by simp only[kn];omega⟩
 have kx:KB (kn (⟨t,x,x⟩:Gate)):=⟨⟨t0,t1⟩,x0,x1,x0,x1⟩
 have h0:(pe q l [(⟨t,x,x⟩:Gate)] ((s:Nat):Int)).g 0=⟨0,q.ai,q.af⟩:=rfl
 have ht:∀g∈pe q l [(⟨t,x,x⟩:Gate)] ((s:Nat):Int),(0≤g.time∧g.time≤100000)∧(KB (kn g)∨Open g)∧g.aw≤g.ar:=fun g hg=>by
  rcases (lh f hs).1 hg with rfl | hg | ⟨j,hj,e⟩
  · exact ⟨⟨Int.le_refl _,by simp only;omega⟩,.inl k0,by simp only;omega⟩
  · obtain rfl:=List.mem_singleton.1 hg
    exact ⟨⟨t0,t1⟩,.inl kx,Int.le_refl _⟩
  · obtain ⟨⟨g1,g2⟩,⟨g3,g4⟩,g5,g6⟩:=f.read j hj
    have hb:=f.bad
    obtain ⟨w1,w2⟩:=qF (f.aL (l.g j).aL.toNat o!) g3 g4
    cases e1:s.testBit (l.g j).aL.toNat with
    | true=>rw[e1,if_pos rfl] at e;subst e;exact ⟨⟨g3,g4⟩,.inr ⟨rfl,rfl⟩,by simp only[bZ];omega⟩
    | false=>rw[e1,if_neg (by decide)] at e;subst e;exact ⟨⟨g3,g4⟩,.inl (CK f hj),by simp only[Af];omega⟩
 obtain ⟨a,b⟩:=J4 (L:=pe q l [(⟨t,x,x⟩:Gate)] ((s:Nat):Int)) (by rw[pM];omega) ht (by rw[h0]) (by rw[h0];exact k0)
 refine ⟨a,fun c=>?_⟩
 rw[b]
 constructor
 · rintro ⟨g,hg,kb,rfl⟩
   rcases (lh f hs).1 hg with rfl | hg | ⟨j,hj,e⟩
   · exact .inl (.inl rfl)
   · obtain rfl:=List.mem_singleton.1 hg
     exact .inr rfl
   · cases e1:s.testBit (l.g j).aL.toNat with
     | true=>rw[e1,if_pos rfl] at e;subst e;exact absurd kb (HD)
     | false=>rw[e1,if_neg (by decide)] at e;subst e;exact .inl (.inr ⟨j,hj,e1,rfl⟩)
 · rintro ((rfl | ⟨j,hj,e1,rfl⟩) | rfl)
   · exact ⟨_,(lh f hs).2 (.inl rfl),k0,rfl⟩
   · exact ⟨⟨(Af q (l.g j)).time,(Af q (l.g j)).aw,(Af q (l.g j)).ar⟩,(lh f hs).2 (.inr (.inr ⟨j,hj,by rw[e1];rfl⟩)),CK f hj,rfl⟩
   · exact ⟨_,(lh f hs).2 (.inr (.inl (List.mem_singleton.2 rfl))),kx,rfl⟩
theorem Dk:(cq q l [(⟨t,x,x⟩:Gate)] ((s:Nat):Int)=none↔¬tO q.aI q.aH (KX q l s t x))∧∀w,cq q l [(⟨t,x,x⟩:Gate)] ((s:Nat):Int)=some w→
 (∀g∈pe q l [(⟨t,x,x⟩:Gate)] ((s:Nat):Int),∃j,j<w.length∧(w.g j).time=g.time)∧∀j,j<w.length→∀y,((w.g j).aw≤y∧y≤(w.g j).ar)↔∀c,KX q l s t x c→(eY q.aI q.aH c (w.g j).time).ay≤y∧y≤(eY q.aI q.aH c (w.g j).time).aq:=by
 obtain ⟨r0,r1,f0,f1⟩:=f.pG
 obtain ⟨gs,kg⟩:=ME f hs t0 t1 x0 x1
 have h1:1≤(pe q l [(⟨t,x,x⟩:Gate)] ((s:Nat):Int)).length:=by rw[pM];omega
 obtain ⟨p1,p2,p3⟩:=qI h1
 have len:=p1.length_eq
 obtain ⟨c1,c2⟩:=Ff f0 f1 r0 r1 gs (n:=(pe q l [(⟨t,x,x⟩:Gate)] ((s:Nat):Int)).length) len.symm h1
 have ex:tO q.aI q.aH (KG (lH (pe q l [(⟨t,x,x⟩:Gate)] ((s:Nat):Int))))↔tO q.aI q.aH (KX q l s t x):=
  ⟨fun h i hi k hk=>h i ((kg i).2 hi) k ((kg k).2 hk),fun h i hi k hk=>h i ((kg i).1 hi) k ((kg k).1 hk)⟩
 rw[A5]
 refine ⟨?_,fun w e=>?_⟩
 · rw[Option.map_eq_none_iff,c1,ex]
 · obtain ⟨W,e1,rfl⟩:=Option.map_eq_some_iff.1 e
   obtain ⟨d1,d2⟩:=c2 W e1
   refine ⟨fun g hg=>?_,fun j hj y=>?_⟩
   · obtain ⟨j,hj,e2⟩:=List.mem_iff_getElem.1 (p1.symm.subset hg)
     refine ⟨j,by omega,?_⟩
     rw[(d2 j o!).1,kI hj,e2]
   · have nD:j<(pe q l [(⟨t,x,x⟩:Gate)] ((s:Nat):Int)).length:=by omega
     rw[(d2 j nD).2 y,(d2 j nD).1]
     exact ⟨fun h c hc=>h c ((kg c).2 hc),fun h c hc=>h c ((kg c).1 hc)⟩
end
theorem Uw {q:aD} {l:List aK} (f:RF q l) {s:Nat} {t x:Int} (t0:0≤t):tO q.aI q.aH (KX q l s t x)↔vX q l s∧LZ q l s t x:=by
 obtain ⟨r0,r1,f0,f1⟩:=f.pG
 have self:∀c:bC,eY q.aI q.aH c c.time=⟨c.aw,c.ar⟩:=fun c=>by
  rw[eY,if_pos (Int.le_refl _)];simp
 have sym:∀c:bC,((eY q.aI q.aH c t).ay≤x∧x≤(eY q.aI q.aH c t).aq)↔((eY q.aI q.aH ⟨t,x,x⟩ c.time).ay≤c.ar∧c.aw≤(eY q.aI q.aH ⟨t,x,x⟩ c.time).aq):=fun c=>by
  rw[eY,eY]
  by_cases a:c.time≤t
  · by_cases b:t≤c.time
    · have e:c.time=t:=by omega
      rw[if_pos a,if_pos b]
      simp only[e,Int.sub_self,Int.mul_zero]
      omega
    · rw[if_pos a,if_neg b]
      simp only
      omega
  · rw[if_neg a,if_pos (show t≤c.time by omega)]
    simp only
    omega
 constructor
 · intro h
   refine ⟨fun i hi k hk=>h i (.inl hi) k (.inl hk),fun c hc=>?_⟩
   have a:=h c (.inl hc) ⟨t,x,x⟩ (.inr rfl)
   simp only at a
   omega
 · rintro ⟨h1,h2⟩ i (hi | rfl) k (hk | rfl)
   · exact h1 i hi k hk
   · have:=h2 i hi
     simp only
     omega
   · have a:=h2 k hk
     have b:=(sym k).1 a
     have c:=h1 k hk k hk
     rw[self] at c
     simp only at c ⊢
     have m1:(eY q.aI q.aH ⟨t,x,x⟩ k.time).ay≤(eY q.aI q.aH ⟨t,x,x⟩ k.time).aq:=by
      rw[eY]
      by_cases d:t≤k.time
      · rw[if_pos d]
        have:=Int.mul_nonneg f0 (show 0≤k.time - t by omega)
        have:=Int.mul_nonneg r0 (show 0≤k.time - t by omega)
        simp only;omega
      · rw[if_neg d]
        have:=Int.mul_nonneg f0 (show 0≤t - k.time by omega)
        have:=Int.mul_nonneg r0 (show 0≤t - k.time by omega)
        simp only;omega
     omega
   · rw[self];simp only;omega
def rR (q:aD) (l_:List aK) (t:Int):List Span×Int:=(bif (!decide ((bj q l_ t)=0)) then ([],(bj q l_ t)) else ((rP q l_ t),0))
theorem Xv {q:aD} {l:List aK} {t:Int} (h:bj q l t=0):RF q l∧0≤t∧t≤100000:=by
 obtain ⟨a,b⟩:=yu h
 exact ⟨NU a,Hg (by rw[←Hl];exact b)⟩
theorem Canon.gap {l:List Span}:∀{r:Span},Canon l→r∈l→¬uT l (r.aq+1):=by
 induction l with
 | nil=>intro r _ h;cases h
 | cons s l ih=>
   intro r c hr h
   have hb:=c.beyond
   have hh:=c.head
   rcases List.mem_cons.1 hr with rfl | hr
   · exact c.ends.2.2.1 h
   · rcases eS.1 h with h | h
     · have:=hb r hr
       have:r.ay≤r.aq:=by
        have:∀{m:List Span},Canon m→∀x∈m,x.ay≤x.aq:=by
         intro m
         induction m with
         | nil=>intro _ x hx;cases hx
         | cons a m ih=>intro c x hx;rcases List.mem_cons.1 hx with rfl | hx;exact c.head;exact ih c.tail x hx
        exact this c.tail r hr
       omega
     · exact ih c.tail hr h
theorem Canon.some {m:List Span}:Canon m→∀x∈m,x.ay≤x.aq:=by
 induction m with
 | nil=>intro _ x hx;cases hx
 | cons a m ih=>
   intro c x hx
   rcases List.mem_cons.1 hx with rfl | hx
   · exact c.head
   · exact ih c.tail x hx
theorem Canon.within {a b:List Span} (ca:Canon a) (cb:Canon b) (h:∀x,uT a x→uT b x):∀s∈a,∃r∈b,r.ay≤s.ay∧s.aq≤r.aq:=by
 intro s hs
 have hh:=ca.some s hs
 obtain ⟨r,hr,h1,h2⟩:=h s.ay ⟨s,hs,Int.le_refl _,hh⟩
 refine ⟨r,hr,h1,?_⟩
 by_cases e:s.aq≤r.aq
 · exact e
 · exact absurd (h (r.aq+1) ⟨s,hs,by omega,by omega⟩) (cb.gap hr)
theorem Ux {q:aD} (r0:0≤q.aH) (r1:q.aH≤10000) (f0:0≤q.aI) (f1:q.aI≤10000) {n:Nat} {x:Int} (hx:x< -1000000000000∨1000000000000<x):∀(k i:Nat) (C:List Gate),i+k=n→C.length=n→1≤i→(∀j,j<n→0≤(C.g j).time∧(C.g j).time≤100000)→(∀j l,j≤l→l<n→(C.g j).time≤(C.g l).time)→
 -1000000000 - 10000*(C.g (i - 1)).time≤(C.g (i - 1)).aw→(C.g (i - 1)).aw≤(C.g (i - 1)).ar→(C.g (i - 1)).ar≤1000000000+10000*(C.g (i - 1)).time→(∃j,i≤j∧j<n∧(C.g j).aw=x∧(C.g j).ar=x)→iV q n k i C=none
 | 0,i,C,e,hl,hi,ht,ho,b1,b2,b3,⟨j,j1,j2,_⟩=>by omega
 | k+1,i,C,e,hl,hi,ht,ho,b1,b2,b3,⟨j,j1,j2,j3,j4⟩=>by
   have T0:=ht (i - 1) o!;have T1:=ht i o!;have T2:=ho (i - 1) i o! o!
   obtain ⟨m1,m2⟩:=iP f0 f1 (x:=(C.g i).time -(C.g (i - 1)).time) o! o!
   obtain ⟨m3,m4⟩:=iP r0 r1 (x:=(C.g i).time -(C.g (i - 1)).time) o! o!
   have d1:q.aI*((C.g i).time -(C.g (i - 1)).time)≤10000*((C.g i).time -(C.g (i - 1)).time):=Int.mul_le_mul_of_nonneg_right f1 o!
   have d2:q.aH*((C.g i).time -(C.g (i - 1)).time)≤10000*((C.g i).time -(C.g (i - 1)).time):=Int.mul_le_mul_of_nonneg_right r1 o!
   have J2:(DD q (C.g (i - 1)) (C.g i)).aw=max (C.g i).aw ((C.g (i - 1)).aw - q.aI*((C.g i).time -(C.g (i - 1)).time)):=by
    simp only[DD,bw,rI]
    rw[wrap_i64 (n:=(C.g i).time -(C.g (i - 1)).time) o! o!,wrap_i64 (n:=q.aI*((C.g i).time -(C.g (i - 1)).time)) o! o!,wrap_i64 (n:=(C.g (i - 1)).aw - q.aI*((C.g i).time -(C.g (i - 1)).time)) o! o!]
   have Ak:(DD q (C.g (i - 1)) (C.g i)).ar=min (C.g i).ar ((C.g (i - 1)).ar+q.aH*((C.g i).time -(C.g (i - 1)).time)):=by
    simp only[DD,bw,ux]
    rw[wrap_i64 (n:=(C.g i).time -(C.g (i - 1)).time) o! o!,wrap_i64 (n:=q.aH*((C.g i).time -(C.g (i - 1)).time)) o! o!,wrap_i64 (n:=(C.g (i - 1)).ar+q.aH*((C.g i).time -(C.g (i - 1)).time)) o! o!]
   have htm:(DD q (C.g (i - 1)) (C.g i)).time=(C.g i).time:=rfl
   rw[wj,jz _ o!]
   by_cases hd:(DD q (C.g (i - 1)) (C.g i)).ar<(DD q (C.g (i - 1)) (C.g i)).aw
   · rw[decide_eq_true hd];rfl
   · rw[decide_eq_false hd,aj]
     by_cases ej:j=i
     · subst ej
       exfalso
       rw[J2,Ak,j3,j4] at hd
       omega
     · have g:∀u,((C.set i (DD q (C.g (i - 1)) (C.g i))).g u).time=(C.g u).time:=fun u=>by
        by_cases eu:u=i
        · subst eu;rw[jz _ o!,htm]
        · rw[j6 _ (Ne.symm eu)]
       refine Ux r0 r1 f0 f1 hx k (i+1) _ o! (by rw[List.length_set];exact hl) o! (fun u hu=>by rw[g];exact ht u hu) (fun u v h1 h2=>by rw[g,g];exact ho u v h1 h2) ?_ ?_ ?_ ⟨j,by omega,j2,?_,?_⟩
       · rw[Nat.add_sub_cancel,jz _ o!,htm,J2];omega
       · rw[Nat.add_sub_cancel,jz _ o!];omega
       · rw[Nat.add_sub_cancel,jz _ o!,htm,Ak];omega
       · rw[j6 _ o!];exact j3
       · rw[j6 _ o!];exact j4
end
end Go.Proofs.aG
