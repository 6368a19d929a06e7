import Derived.Test.YtobmbjlcklkpoaaW0
import Derived.Test.YtobmbjlcklkpoaaW14
namespace Go.Proofs.aJ
open Go.Proofs Ab
noncomputable section
set_option maxRecDepth 100000
set_option maxHeartbeats 4000000
set_option linter.unusedVariables false
set_option linter.unusedSimpArgs false
open Go.ChangeShapes Go.WideShapes Go.RowKit
section
variable {H:Type} {enc:TypeId×Value→H} {w:World} {base:Nat} {spare:Nat→Bool} {held:Bool}
theorem NM:Try.prog.cellsOf 9=1:=by kernel_rfl
theorem mw:Try.prog.cellsOf 3=1:=by kernel_rfl
theorem TX:Try.prog.cellsOf 23=2:=by kernel_rfl
theorem WV:ve enc w base spare held 23 2 (aA.c (α:=Span)) aA.ok:=fun φ h0 ok ro ty cs z fuel hl hw hv=>by
 obtain ⟨xs,n,_,rfl,_,CU,hf⟩:=DataW.trod_struct Try.underlying23 hv
 obtain ⟨c0,c1,rfl⟩:∃c0 c1,cs=[c0,c1]:=by
  match cs,hl with
  | [c0,c1],_=>exact ⟨_,_,rfl⟩
 obtain ⟨y0,y1,rfl⟩:∃y0 y1,xs=[y0,y1]:=by
  match xs,CU with
  | [y0,y1],_=>exact ⟨_,_,rfl⟩
 have hs:=Small.struct Try.underlying23 hw
 obtain ⟨s0,hs⟩:=Small.cz hs
 have q0:DataW.trod enc Try.prog w base spare held n 3 [c0]=some y0:=by simpa [mw] using hf 0 _ rfl
 obtain ⟨φ1,h1,x0,g0,l0,o0⟩:=gC (t:=3) Try.underlying3 _ _ (Gx.refl ok ro ty).ok (Gx.refl ok ro ty).ro (Gx.refl ok ro ty).tidy _ _ _ rfl s0 q0
 have G0:=Gx.trans (Gx.refl ok ro ty) g0
 obtain ⟨s1,hs⟩:=Small.cz hs
 have q1:DataW.trod enc Try.prog w base spare held n 3 [c1]=some y1:=by simpa [mw] using hf 1 _ rfl
 obtain ⟨φ2,h2,x1,g1,l1,o1⟩:=gC (t:=3) Try.underlying3 _ _ G0.ok G0.ro G0.tidy _ _ _ rfl s1 q1
 have G1:=Gx.trans G0 g1
 have L0:=LR.mono (Ph.le_trans (Ph.le_refl _) g1.le) l0
 have L1:=LR.mono (Ph.le_refl _) l1
 exact ⟨_,_,⟨x0,x1⟩,G1,(LR.append L0 (LR.append L1 (LR.nil _))),trivial⟩
theorem TY:Try.prog.cellsOf 63=4:=by kernel_rfl
theorem WW:ve enc w base spare held 63 4 (aA.c (α:=bY)) aA.ok:=fun φ h0 ok ro ty cs z fuel hl hw hv=>by
 obtain ⟨xs,n,_,rfl,_,CU,hf⟩:=DataW.trod_struct Try.underlying63 hv
 obtain ⟨c0,c1,c2,c3,rfl⟩:∃c0 c1 c2 c3,cs=[c0,c1,c2,c3]:=by
  match cs,hl with
  | [c0,c1,c2,c3],_=>exact ⟨_,_,_,_,rfl⟩
 obtain ⟨y0,y1,y2,y3,rfl⟩:∃y0 y1 y2 y3,xs=[y0,y1,y2,y3]:=by
  match xs,CU with
  | [y0,y1,y2,y3],_=>exact ⟨_,_,_,_,rfl⟩
 have hs:=Small.struct Try.underlying63 hw
 obtain ⟨s0,hs⟩:=Small.cz hs
 have q0:DataW.trod enc Try.prog w base spare held n 9 [c0]=some y0:=by simpa [NM] using hf 0 _ rfl
 obtain ⟨φ1,h1,x0,g0,l0,o0⟩:=EH (t:=9) Try.underlying9 _ _ (Gx.refl ok ro ty).ok (Gx.refl ok ro ty).ro (Gx.refl ok ro ty).tidy _ _ _ rfl s0 q0
 have G0:=Gx.trans (Gx.refl ok ro ty) g0
 obtain ⟨s1,hs⟩:=Small.cz hs
 have q1:DataW.trod enc Try.prog w base spare held n 3 [c1]=some y1:=by simpa [mw] using hf 1 _ rfl
 obtain ⟨φ2,h2,x1,g1,l1,o1⟩:=gC (t:=3) Try.underlying3 _ _ G0.ok G0.ro G0.tidy _ _ _ rfl s1 q1
 have G1:=Gx.trans G0 g1
 obtain ⟨s2,hs⟩:=Small.cz hs
 have q2:DataW.trod enc Try.prog w base spare held n 3 [c2]=some y2:=by simpa [mw] using hf 2 _ rfl
 obtain ⟨φ3,h3,x2,g2,l2,o2⟩:=gC (t:=3) Try.underlying3 _ _ G1.ok G1.ro G1.tidy _ _ _ rfl s2 q2
 have G2:=Gx.trans G1 g2
 obtain ⟨s3,hs⟩:=Small.cz hs
 have q3:DataW.trod enc Try.prog w base spare held n 3 [c3]=some y3:=by simpa [mw] using hf 3 _ rfl
 obtain ⟨φ4,h4,x3,g3,l3,o3⟩:=gC (t:=3) Try.underlying3 _ _ G2.ok G2.ro G2.tidy _ _ _ rfl s3 q3
 have G3:=Gx.trans G2 g3
 have L0:=LR.mono (Ph.le_trans (Ph.le_trans (Ph.le_trans (Ph.le_refl _) g1.le) g2.le) g3.le) l0
 have L1:=LR.mono (Ph.le_trans (Ph.le_trans (Ph.le_refl _) g2.le) g3.le) l1
 have L2:=LR.mono (Ph.le_trans (Ph.le_refl _) g3.le) l2
 have L3:=LR.mono (Ph.le_refl _) l3
 exact ⟨_,_,⟨x0,x1,x2,x3⟩,G3,(LR.append L0 (LR.append L1 (LR.append L2 (LR.append L3 (LR.nil _))))),o0⟩
theorem TZ:Try.prog.cellsOf 24=1:=by kernel_rfl
theorem WX:ve enc w base spare held 24 1 (fun x:AV×List bY=> [x.1]) (fun h x=>aQ h x.1 x.2):=zY (t:=24) Try.underlying24 TY (of_decide_eq_true (by kernel_rfl)) (fun _ x m _ h=>by cases x;simp [aA.c,bY.c] at h) WW
theorem T6:Try.prog.cellsOf 26=7:=by kernel_rfl
theorem WY:ve enc w base spare held 26 7 (aA.c (α:=ay)) aA.ok:=fun φ h0 ok ro ty cs z fuel hl hw hv=>by
 obtain ⟨xs,n,_,rfl,_,CU,hf⟩:=DataW.trod_struct Try.underlying26 hv
 obtain ⟨c0,c1,c2,c3,c4,c5,c6,rfl⟩:∃c0 c1 c2 c3 c4 c5 c6,cs=[c0,c1,c2,c3,c4,c5,c6]:=by
  match cs,hl with
  | [c0,c1,c2,c3,c4,c5,c6],_=>exact ⟨_,_,_,_,_,_,_,rfl⟩
 obtain ⟨y0,y1,y2,y3,y4,y5,rfl⟩:∃y0 y1 y2 y3 y4 y5,xs=[y0,y1,y2,y3,y4,y5]:=by
  match xs,CU with
  | [y0,y1,y2,y3,y4,y5],_=>exact ⟨_,_,_,_,_,_,rfl⟩
 have hs:=Small.struct Try.underlying26 hw
 obtain ⟨s0,hs⟩:=Small.cz hs
 have q0:DataW.trod enc Try.prog w base spare held n 9 [c0]=some y0:=by simpa [NM] using hf 0 _ rfl
 obtain ⟨φ1,h1,x0,g0,l0,o0⟩:=EH (t:=9) Try.underlying9 _ _ (Gx.refl ok ro ty).ok (Gx.refl ok ro ty).ro (Gx.refl ok ro ty).tidy _ _ _ rfl s0 q0
 have G0:=Gx.trans (Gx.refl ok ro ty) g0
 obtain ⟨s1,hs⟩:=Small.cz hs
 have q1:DataW.trod enc Try.prog w base spare held n 23 [c1,c2]=some y1:=by simpa [TX] using hf 1 _ rfl
 obtain ⟨φ2,h2,x1,g1,l1,o1⟩:=WV _ _ G0.ok G0.ro G0.tidy _ _ _ rfl s1 q1
 have G1:=Gx.trans G0 g1
 obtain ⟨s2,hs⟩:=Small.cz hs
 have q2:DataW.trod enc Try.prog w base spare held n 3 [c3]=some y2:=by simpa [mw] using hf 2 _ rfl
 obtain ⟨φ3,h3,x2,g2,l2,o2⟩:=gC (t:=3) Try.underlying3 _ _ G1.ok G1.ro G1.tidy _ _ _ rfl s2 q2
 have G2:=Gx.trans G1 g2
 obtain ⟨s3,hs⟩:=Small.cz hs
 have q3:DataW.trod enc Try.prog w base spare held n 3 [c4]=some y3:=by simpa [mw] using hf 3 _ rfl
 obtain ⟨φ4,h4,x3,g3,l3,o3⟩:=gC (t:=3) Try.underlying3 _ _ G2.ok G2.ro G2.tidy _ _ _ rfl s3 q3
 have G3:=Gx.trans G2 g3
 obtain ⟨s4,hs⟩:=Small.cz hs
 have q4:DataW.trod enc Try.prog w base spare held n 3 [c5]=some y4:=by simpa [mw] using hf 4 _ rfl
 obtain ⟨φ5,h5,x4,g4,l4,o4⟩:=gC (t:=3) Try.underlying3 _ _ G3.ok G3.ro G3.tidy _ _ _ rfl s4 q4
 have G4:=Gx.trans G3 g4
 obtain ⟨s5,hs⟩:=Small.cz hs
 have q5:DataW.trod enc Try.prog w base spare held n 24 [c6]=some y5:=by simpa [TZ] using hf 5 _ rfl
 obtain ⟨φ6,h6,x5,g5,l5,o5⟩:=WX _ _ G4.ok G4.ro G4.tidy _ _ _ rfl s5 q5
 have G5:=Gx.trans G4 g5
 have L0:=LR.mono (Ph.le_trans (Ph.le_trans (Ph.le_trans (Ph.le_trans (Ph.le_trans (Ph.le_refl _) g1.le) g2.le) g3.le) g4.le) g5.le) l0
 have L1:=LR.mono (Ph.le_trans (Ph.le_trans (Ph.le_trans (Ph.le_trans (Ph.le_refl _) g2.le) g3.le) g4.le) g5.le) l1
 have L2:=LR.mono (Ph.le_trans (Ph.le_trans (Ph.le_trans (Ph.le_refl _) g3.le) g4.le) g5.le) l2
 have L3:=LR.mono (Ph.le_trans (Ph.le_trans (Ph.le_refl _) g4.le) g5.le) l3
 have L4:=LR.mono (Ph.le_trans (Ph.le_refl _) g5.le) l4
 have L5:=LR.mono (Ph.le_refl _) l5
 exact ⟨_,_,⟨x0,x1.aP,x1.aF,x2,x3,x4,x5.1,x5.2⟩,G5,(LR.append L0 (LR.append L1 (LR.append L2 (LR.append L3 (LR.append L4 (LR.append L5 (LR.nil _))))))),⟨o0,o5⟩⟩
theorem T7:Try.prog.cellsOf 44=3:=by kernel_rfl
theorem WZ:ve enc w base spare held 44 3 (aA.c (α:=aM)) aA.ok:=fun φ h0 ok ro ty cs z fuel hl hw hv=>by
 obtain ⟨xs,n,_,rfl,_,CU,hf⟩:=DataW.trod_struct Try.underlying44 hv
 obtain ⟨c0,c1,c2,rfl⟩:∃c0 c1 c2,cs=[c0,c1,c2]:=by
  match cs,hl with
  | [c0,c1,c2],_=>exact ⟨_,_,_,rfl⟩
 obtain ⟨y0,y1,y2,rfl⟩:∃y0 y1 y2,xs=[y0,y1,y2]:=by
  match xs,CU with
  | [y0,y1,y2],_=>exact ⟨_,_,_,rfl⟩
 have hs:=Small.struct Try.underlying44 hw
 obtain ⟨s0,hs⟩:=Small.cz hs
 have q0:DataW.trod enc Try.prog w base spare held n 3 [c0]=some y0:=by simpa [mw] using hf 0 _ rfl
 obtain ⟨φ1,h1,x0,g0,l0,o0⟩:=gC (t:=3) Try.underlying3 _ _ (Gx.refl ok ro ty).ok (Gx.refl ok ro ty).ro (Gx.refl ok ro ty).tidy _ _ _ rfl s0 q0
 have G0:=Gx.trans (Gx.refl ok ro ty) g0
 obtain ⟨s1,hs⟩:=Small.cz hs
 have q1:DataW.trod enc Try.prog w base spare held n 3 [c1]=some y1:=by simpa [mw] using hf 1 _ rfl
 obtain ⟨φ2,h2,x1,g1,l1,o1⟩:=gC (t:=3) Try.underlying3 _ _ G0.ok G0.ro G0.tidy _ _ _ rfl s1 q1
 have G1:=Gx.trans G0 g1
 obtain ⟨s2,hs⟩:=Small.cz hs
 have q2:DataW.trod enc Try.prog w base spare held n 3 [c2]=some y2:=by simpa [mw] using hf 2 _ rfl
 obtain ⟨φ3,h3,x2,g2,l2,o2⟩:=gC (t:=3) Try.underlying3 _ _ G1.ok G1.ro G1.tidy _ _ _ rfl s2 q2
 have G2:=Gx.trans G1 g2
 have L0:=LR.mono (Ph.le_trans (Ph.le_trans (Ph.le_refl _) g1.le) g2.le) l0
 have L1:=LR.mono (Ph.le_trans (Ph.le_refl _) g2.le) l1
 have L2:=LR.mono (Ph.le_refl _) l2
 exact ⟨_,_,⟨x0,x1,x2⟩,G2,(LR.append L0 (LR.append L1 (LR.append L2 (LR.nil _)))),trivial⟩
theorem W0:ve enc w base spare held 27 1 (fun x:AV×List aM=> [x.1]) (fun h x=>aQ h x.1 x.2):=zY (t:=27) Try.underlying27 T7 (of_decide_eq_true (by kernel_rfl)) (fun _ x m _ h=>by cases x;simp [aA.c,aM.c] at h) WZ
end
end
end Go.Proofs.aJ
