import Derived.Test.YtaglmdbkfcpbbaaGreatW0
import Derived.Test.YtaglmdbkfcpbbaaGreatW13
namespace Go.Proofs.bt
open Go.Proofs Ab
set_option maxRecDepth 100000
set_option maxHeartbeats 4000000
set_option linter.unusedVariables false
set_option linter.unusedSimpArgs false
open Go.ChangeShapes Go.WideShapes Go.RowKit
section
variable {H:Type} {enc:TypeId×Value→H} {w:World} {base:Nat} {spare:Nat→Bool} {held:Bool}
theorem mL:Tryz.prog.cellsOf 3=1:=by kernel_rfl
theorem LJ:Tryz.prog.cellsOf 67=3:=by kernel_rfl
theorem N2:uN enc w base spare held 67 3 (aD.c (α:=bK)) aD.ok:=fun φ h0 ok ro ty cs z fuel hl hw hv=>by
 obtain ⟨xs,n,_,rfl,_,Cj,hf⟩:=DataW.trod_struct Tryz.underlying67 hv
 obtain ⟨c0,c1,c2,rfl⟩:∃c0 c1 c2,cs=[c0,c1,c2]:=by
  match cs,hl with
  | [c0,c1,c2],_=>exact ⟨_,_,_,rfl⟩
 obtain ⟨y0,y1,y2,rfl⟩:∃y0 y1 y2,xs=[y0,y1,y2]:=by
  match xs,Cj with
  | [y0,y1,y2],_=>exact ⟨_,_,_,rfl⟩
 have hs:=Small.struct Tryz.underlying67 hw
 obtain ⟨s0,hs⟩:=Small.cW hs
 have q0:DataW.trod enc Tryz.prog w base spare held n 3 [c0]=some y0:=by simpa [mL] using hf 0 _ rfl
 obtain ⟨φ1,h1,x0,g0,l0,o0⟩:=gU (t:=3) Tryz.underlying3 _ _ (Gx.refl ok ro ty).ok (Gx.refl ok ro ty).ro (Gx.refl ok ro ty).tidy _ _ _ rfl s0 q0
 have G0:=Gx.trans (Gx.refl ok ro ty) g0
 obtain ⟨s1,hs⟩:=Small.cW hs
 have q1:DataW.trod enc Tryz.prog w base spare held n 3 [c1]=some y1:=by simpa [mL] using hf 1 _ rfl
 obtain ⟨φ2,h2,x1,g1,l1,o1⟩:=gU (t:=3) Tryz.underlying3 _ _ G0.ok G0.ro G0.tidy _ _ _ rfl s1 q1
 have G1:=Gx.trans G0 g1
 obtain ⟨s2,hs⟩:=Small.cW hs
 have q2:DataW.trod enc Tryz.prog w base spare held n 3 [c2]=some y2:=by simpa [mL] using hf 2 _ rfl
 obtain ⟨φ3,h3,x2,g2,l2,o2⟩:=gU (t:=3) Tryz.underlying3 _ _ G1.ok G1.ro G1.tidy _ _ _ rfl s2 q2
 have G2:=Gx.trans G1 g2
 have L0:=LR.mono (Ph.le_trans (Ph.le_trans (Ph.le_refl _) g1.le) g2.le) l0
 have L1:=LR.mono (Ph.le_trans (Ph.le_refl _) g2.le) l1
 have L2:=LR.mono (Ph.le_refl _) l2
 exact ⟨_,_,⟨x0,x1,x2⟩,G2,(LR.append L0 (LR.append L1 (LR.append L2 (LR.nil _)))),trivial⟩
theorem LK:Tryz.prog.cellsOf 22=1:=by kernel_rfl
theorem N3:uN enc w base spare held 22 1 (fun x:AV×List bK=> [x.1]) (fun h x=>bD h x.1 x.2):=wz (t:=22) Tryz.underlying22 LJ (of_decide_eq_true (by kernel_rfl)) (fun _ x m _ h=>by cases x;simp [aD.c,bK.c] at h) N2
theorem LM:Tryz.prog.cellsOf 24=3:=by kernel_rfl
theorem N4:uN enc w base spare held 24 3 (aD.c (α:=aK)) aD.ok:=fun φ h0 ok ro ty cs z fuel hl hw hv=>by
 obtain ⟨xs,n,_,rfl,_,Cj,hf⟩:=DataW.trod_struct Tryz.underlying24 hv
 obtain ⟨c0,c1,c2,rfl⟩:∃c0 c1 c2,cs=[c0,c1,c2]:=by
  match cs,hl with
  | [c0,c1,c2],_=>exact ⟨_,_,_,rfl⟩
 obtain ⟨y0,y1,y2,rfl⟩:∃y0 y1 y2,xs=[y0,y1,y2]:=by
  match xs,Cj with
  | [y0,y1,y2],_=>exact ⟨_,_,_,rfl⟩
 have hs:=Small.struct Tryz.underlying24 hw
 obtain ⟨s0,hs⟩:=Small.cW hs
 have q0:DataW.trod enc Tryz.prog w base spare held n 22 [c0]=some y0:=by simpa [LK] using hf 0 _ rfl
 obtain ⟨φ1,h1,x0,g0,l0,o0⟩:=N3 _ _ (Gx.refl ok ro ty).ok (Gx.refl ok ro ty).ro (Gx.refl ok ro ty).tidy _ _ _ rfl s0 q0
 have G0:=Gx.trans (Gx.refl ok ro ty) g0
 obtain ⟨s1,hs⟩:=Small.cW hs
 have q1:DataW.trod enc Tryz.prog w base spare held n 3 [c1]=some y1:=by simpa [mL] using hf 1 _ rfl
 obtain ⟨φ2,h2,x1,g1,l1,o1⟩:=gU (t:=3) Tryz.underlying3 _ _ G0.ok G0.ro G0.tidy _ _ _ rfl s1 q1
 have G1:=Gx.trans G0 g1
 obtain ⟨s2,hs⟩:=Small.cW hs
 have q2:DataW.trod enc Tryz.prog w base spare held n 3 [c2]=some y2:=by simpa [mL] using hf 2 _ rfl
 obtain ⟨φ3,h3,x2,g2,l2,o2⟩:=gU (t:=3) Tryz.underlying3 _ _ G1.ok G1.ro G1.tidy _ _ _ rfl s2 q2
 have G2:=Gx.trans G1 g2
 have L0:=LR.mono (Ph.le_trans (Ph.le_trans (Ph.le_refl _) g1.le) g2.le) l0
 have L1:=LR.mono (Ph.le_trans (Ph.le_refl _) g2.le) l1
 have L2:=LR.mono (Ph.le_refl _) l2
 exact ⟨_,_,⟨x0.1,x0.2,x1,x2⟩,G2,(LR.append L0 (LR.append L1 (LR.append L2 (LR.nil _)))),((o0.has g1.has).has g2.has)⟩
theorem N5:Tryz.prog.cellsOf 9=1:=by kernel_rfl
theorem LN:Tryz.prog.cellsOf 37=5:=by kernel_rfl
theorem N6:uN enc w base spare held 37 5 (aD.c (α:=aO)) aD.ok:=fun φ h0 ok ro ty cs z fuel hl hw hv=>by
 obtain ⟨xs,n,_,rfl,_,Cj,hf⟩:=DataW.trod_struct Tryz.underlying37 hv
 obtain ⟨c0,c1,c2,c3,c4,rfl⟩:∃c0 c1 c2 c3 c4,cs=[c0,c1,c2,c3,c4]:=by
  match cs,hl with
  | [c0,c1,c2,c3,c4],_=>exact ⟨_,_,_,_,_,rfl⟩
 obtain ⟨y0,y1,y2,y3,y4,rfl⟩:∃y0 y1 y2 y3 y4,xs=[y0,y1,y2,y3,y4]:=by
  match xs,Cj with
  | [y0,y1,y2,y3,y4],_=>exact ⟨_,_,_,_,_,rfl⟩
 have hs:=Small.struct Tryz.underlying37 hw
 obtain ⟨s0,hs⟩:=Small.cW hs
 have q0:DataW.trod enc Tryz.prog w base spare held n 9 [c0]=some y0:=by simpa [N5] using hf 0 _ rfl
 obtain ⟨φ1,h1,x0,g0,l0,o0⟩:=AN (t:=9) Tryz.underlying9 _ _ (Gx.refl ok ro ty).ok (Gx.refl ok ro ty).ro (Gx.refl ok ro ty).tidy _ _ _ rfl s0 q0
 have G0:=Gx.trans (Gx.refl ok ro ty) g0
 obtain ⟨s1,hs⟩:=Small.cW hs
 have q1:DataW.trod enc Tryz.prog w base spare held n 3 [c1]=some y1:=by simpa [mL] using hf 1 _ rfl
 obtain ⟨φ2,h2,x1,g1,l1,o1⟩:=gU (t:=3) Tryz.underlying3 _ _ G0.ok G0.ro G0.tidy _ _ _ rfl s1 q1
 have G1:=Gx.trans G0 g1
 obtain ⟨s2,hs⟩:=Small.cW hs
 have q2:DataW.trod enc Tryz.prog w base spare held n 3 [c2]=some y2:=by simpa [mL] using hf 2 _ rfl
 obtain ⟨φ3,h3,x2,g2,l2,o2⟩:=gU (t:=3) Tryz.underlying3 _ _ G1.ok G1.ro G1.tidy _ _ _ rfl s2 q2
 have G2:=Gx.trans G1 g2
 obtain ⟨s3,hs⟩:=Small.cW hs
 have q3:DataW.trod enc Tryz.prog w base spare held n 3 [c3]=some y3:=by simpa [mL] using hf 3 _ rfl
 obtain ⟨φ4,h4,x3,g3,l3,o3⟩:=gU (t:=3) Tryz.underlying3 _ _ G2.ok G2.ro G2.tidy _ _ _ rfl s3 q3
 have G3:=Gx.trans G2 g3
 obtain ⟨s4,hs⟩:=Small.cW hs
 have q4:DataW.trod enc Tryz.prog w base spare held n 3 [c4]=some y4:=by simpa [mL] using hf 4 _ rfl
 obtain ⟨φ5,h5,x4,g4,l4,o4⟩:=gU (t:=3) Tryz.underlying3 _ _ G3.ok G3.ro G3.tidy _ _ _ rfl s4 q4
 have G4:=Gx.trans G3 g4
 have L0:=LR.mono (Ph.le_trans (Ph.le_trans (Ph.le_trans (Ph.le_trans (Ph.le_refl _) g1.le) g2.le) g3.le) g4.le) l0
 have L1:=LR.mono (Ph.le_trans (Ph.le_trans (Ph.le_trans (Ph.le_refl _) g2.le) g3.le) g4.le) l1
 have L2:=LR.mono (Ph.le_trans (Ph.le_trans (Ph.le_refl _) g3.le) g4.le) l2
 have L3:=LR.mono (Ph.le_trans (Ph.le_refl _) g4.le) l3
 have L4:=LR.mono (Ph.le_refl _) l4
 exact ⟨_,_,⟨x0,x1,x2,x3,x4⟩,G4,(LR.append L0 (LR.append L1 (LR.append L2 (LR.append L3 (LR.append L4 (LR.nil _)))))),o0⟩
theorem N7:uN enc w base spare held 25 1 (fun x:AV×List aO=> [x.1]) (fun h x=>bD h x.1 x.2):=wz (t:=25) Tryz.underlying25 LN (of_decide_eq_true (by kernel_rfl)) (fun _ x m _ h=>by cases x;simp [aD.c,aO.c] at h) N6
end
end Go.Proofs.bt
