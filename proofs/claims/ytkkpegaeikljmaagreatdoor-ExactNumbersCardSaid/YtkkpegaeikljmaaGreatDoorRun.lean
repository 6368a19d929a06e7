/-
  PROVED: underpinlaw01.ExactNumbers returns true at any text and any integer, and its arguments read behind the call as they read before.
  CONDITIONS: those of the given card alone: the tables of Go's library that the row lists hold what the program's text lays in them (the card ties them). No condition beside.
  HOW: a deterministic evaluator of the program's text is proved sound once; each function's text is run by it over open values; what its calls come to is told by contracts, each of which is proved so.
  THE NAMES of all helpers are made short by program, for the bound on a claim's bytes alone; W0 to W17 hold the functions, A0 to A6 the evaluator.
-/
import Derived.Test.YtkkpegaeikljmaaGreatDoorCard
import Derived.Test.YtkkpegaeikljmaaGreatDoorLive
import Derived.Test.YtkkpegaeikljmaaGreatDoorW17
namespace Go.Proofs.YtkkpegaeikljmaaGreatDoor
open Go.ChangeShapes Go.WideShapes Go.ChangeAt Go.RowKit Ab Go.Proofs.aF
def xS:Ab.Tab:=⟨1,.u64,[1,10,100,1000,10000,100000,1000000,10000000,100000000,1000000000,10000000000,100000000000,1000000000000,10000000000000,100000000000000,1000000000000000,10000000000000000,100000000000000000,1000000000000000000,10000000000000000000],207⟩
set_option maxRecDepth 100000 in
theorem ag8 {W:World} (h:laidMetH Tryz.prog Rows.exactNumbersRow.laid W):Ab.Yf W xS:=by
 rw[MakeChecks.laidMetH_plain _ _ _ (by kernel_rfl)] at h
 obtain ⟨ps,⟨g0,t0,cs0,f0,p0,q0,uR,ht0,hv0,hd0,⟨g1,t1,cs1,f1,p1,q1,XQ,ht1,hv1,hd1,⟨g2,t2,cs2,f2,p2,q2,SG,ht2,Rl,hd2,_,_⟩,_⟩,_⟩,_,_⟩:=h
 obtain rfl:=Option.some.inj ((show Tryz.prog.globalNamed _=some 1 by kernel_rfl).symm.trans SG)
 obtain rfl:=Option.some.inj ((show (Tryz.prog.globals[1]?).map (·.type)=some 207 by kernel_rfl).symm.trans ht2)
 exact Ab.MI SG Rl (ns:=xS.ns) Tryz.underlying207 Tryz.underlying54 (by kernel_rfl) (by kernel_rfl) hd2 rfl _
theorem ag9:Tidy (j7 8 [xS]):=fun i o h=>by
 obtain ⟨x,hx,rfl,_⟩:=uG h
 have:x=xS:=by simpa using hx
 subst this
 rw[yh];decide
theorem aki:(j7 8 [xS]).get 1=some (.cells (aA .u64 pb) 207 true):=by
 rw[j7,show xS.g=1 from rfl,ah.eF];rfl
theorem amv:Tryz.f3.params.toList++Rows.exactNumbersSpec.plain.varTypes Tryz.prog=[9,2]:=by kernel_rfl
theorem params9:Tryz.f3.params= #[9,2]:=by kernel_rfl
set_option maxRecDepth 100000 in
theorem exactNumbers_holds:Rows.ExactNumbersCardSaid:=acF fun W H enc args ds p base yY hwt hA hL=>by
 obtain ⟨v,vs,d,CH,q,q',e1,rfl,rfl,h1,h2⟩:=trodAll_cons hA
 obtain ⟨v',sK,d',anx,r,r',rfl,rfl,rfl,h3,h4⟩:=trodAll_cons h2
 obtain ⟨rfl,_,_⟩:=trodAll_nil h4
 have ea:args= #[v,v']:=by rw[←Array.toList_inj];exact e1
 subst ea
 rw[params9] at yY
 obtain ⟨s,rfl,rfl,_,hs⟩:=Go.ChangeMaps.open_string Tryz.underlying9 (yY 0 9 v rfl rfl) h1
 obtain ⟨z,rfl,_,_,hz⟩:=Go.ChangeShapes.open_int Tryz.underlying2 (yY 1 2 v' rfl rfl) h3
 simp only[Lit.wf,Bool.and_eq_true,decide_eq_true_eq] at hz
 obtain ⟨z1,z2⟩:=hz
 have ht:=ag8 hL
 have ok:OK env (phG 8) (j7 8 [xS]) W:=OK.begin (E:=env) fun x hx=>by
  have:x=xS:=by simpa using hx
  subst this
  exact ⟨by decide,ht⟩
 have hl:s.data.toList.length<2^60:=by
  rw[amv] at hwt
  simp only[List.append_nil,DataW.weightsEach,DataW.weights,List.singleton_append,List.all_cons,Bool.and_eq_true,reachBytes] at hwt
  have h5:=of_decide_eq_true hwt.1
  omega
 have z1':(-9223372036854775808:Int)≤z:=z1
 have z2':z<9223372036854775808:=Int.lt_of_le_of_lt z2 (by decide)
 have rr:=MU Gq ahZ (Ie (d:=0) z1' z2' hl aki ag9)
 have:=KF rr ok (vs:=[.string s,.int .i64 z]) (LR.cons (VR.str s) (LR.cons (VR.int .i64 z) (LR.nil _))) Tw.begin
 exact this
#print axioms exactNumbers_holds
end Go.Proofs.YtkkpegaeikljmaaGreatDoor
