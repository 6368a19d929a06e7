/-
  PROVED: underpinlaw07.WatchChecks returns true at any arguments, and its arguments read behind the call as they read before.
  CONDITIONS: those of the given card alone: the tables of Go's library that the row lists hold what the program's text lays in them (the card ties them). No condition beside.
  HOW: a deterministic evaluator of the program's text is proved sound once; each function's text is run by it over open values and comes to a definition in Lean that was read off the text; that the program's and the specification's definitions are equal is proved by induction.
-/
import Derived.Test.YtmbkbhleedecdaaGreatDoorRows
import Derived.ProofKit
import Derived.OpenShut
import Derived.SizedLaws
import Derived.Test.YtmbkbhleedecdaaGreatDoorCards
import Derived.Test.YtmbkbhleedecdaaGreatDoorTie
import Derived.LaidMore
import Derived.Lay
import Derived.SevenTiedAt
import Derived.Stop.Joined
import Derived.Test.YtmbkbhleedecdaaGreatDoorFacts
import Derived.Test.YtmbkbhleedecdaaGreatDoorLive
import Derived.Test.YtmbkbhleedecdaaGreatDoorW13
namespace Go.Proofs.YtmbkbhleedecdaaGreatDoor
open Go.ChangeShapes Go.WideShapes Go.ChangeAt Go.RowKit Ab Go.Proofs.aM
theorem own:ownKnob Tryz.prog.godebug=none:=by kernel_rfl
theorem params3:Tryz.f3.params.toList=[26,26,28,3]:=by kernel_rfl
theorem Ja:Tryz.f3.params= #[26,26,28,3]:=by kernel_rfl
theorem NY:∀t∈ [26,26,28,3],Tryz.prog.readableRec t=true∧t<Tryz.prog.types.size:=fun t ht=>by
 simp only[List.mem_cons,List.not_mem_nil,or_false] at ht
 rcases ht with rfl | rfl | rfl | rfl
 · exact ⟨by kernel_rfl,of_decide_eq_true (by kernel_rfl)⟩
 · exact ⟨by kernel_rfl,of_decide_eq_true (by kernel_rfl)⟩
 · exact ⟨by kernel_rfl,of_decide_eq_true (by kernel_rfl)⟩
 · exact ⟨by kernel_rfl,of_decide_eq_true (by kernel_rfl)⟩
set_option maxRecDepth 100000 in
theorem YI {W:World} (h:laidMetH Tryz.prog Rows.watchChecksRow.laid W):Ab.PQ W pT:=by
 rw[MakeChecks.laidMetH_plain _ _ _ (by kernel_rfl)] at h
 obtain ⟨ps,⟨g0,t0,cs0,f0,p0,q0,Eg,ht0,hv0,hd0,⟨g1,t1,cs1,f1,p1,q1,hg1,ht1,SZ,hd1,⟨g2,t2,cs2,f2,p2,q2,VD,ht2,MV,WN,_,_⟩,_⟩,_⟩,_,_⟩:=h
 obtain rfl:=Option.some.inj ((show Tryz.prog.globalNamed _=some 1 by kernel_rfl).symm.trans VD)
 obtain rfl:=Option.some.inj ((show (Tryz.prog.globals[1]?).map (·.type)=some 162 by kernel_rfl).symm.trans ht2)
 exact Ab.HU VD MV (ns:=pT.ns) Tryz.underlying162 Tryz.underlying150 (by kernel_rfl) (by kernel_rfl) WN rfl _
theorem YJ:Tidy (j8 4 [pT]):=fun i o h=>by
 obtain ⟨x,hx,rfl,_⟩:=rh h
 have:x=pT:=by simpa using hx
 subst this
 rw[uo];decide
theorem abA:(j8 4 [pT]).get 1=some (.cells (bE .u64 n6) 162 true):=by
 rw[j8,show pT.g=1 from rfl,ax.cn];rfl
theorem NZ {H:Type} {enc:TypeId×Value→H} {W:World} {base:Nat} {spare:Nat→Bool} {held:Bool} {t0 t1 t2 t3:TypeId} {args:Array Value} {ds:List (DataW H)} {ps:List MemPlace} (h:DataW.TrodAll enc Tryz.prog W base spare held [t0,t1,t2,t3] args.toList ds ps):
 ∃v0 v1 v2 v3 d0 d1 d2 d3 p0 p1 p2 p3,args= #[v0,v1,v2,v3]∧ds=[d0,d1,d2,d3]∧DataW.Trod enc Tryz.prog W base spare held t0 v0 d0 p0∧DataW.Trod enc Tryz.prog W base spare held t1 v1 d1 p1∧DataW.Trod enc Tryz.prog W base spare held t2 v2 d2 p2∧DataW.Trod enc Tryz.prog W base spare held t3 v3 d3 p3:=by
 obtain ⟨v0,w0,d0,e0,p0,q0,a0,rfl,rfl,h0,r0⟩:=trodAll_cons h
 obtain ⟨v1,w1,d1,e1,p1,q1,a1,rfl,rfl,h1,r1⟩:=trodAll_cons r0
 obtain ⟨v2,w2,d2,e2,p2,q2,a2,rfl,rfl,h2,r2⟩:=trodAll_cons r1
 obtain ⟨v3,w3,d3,e3,p3,q3,a3,rfl,rfl,h3,r3⟩:=trodAll_cons r2
 obtain ⟨rfl,rfl,rfl⟩:=trodAll_nil r3
 subst a3
 subst a2
 subst a1
 exact ⟨v0,v1,v2,v3,d0,d1,d2,d3,p0,p1,p2,p3,by cases args;simp_all,rfl,h0,h1,h2,h3⟩
set_option maxRecDepth 100000
theorem abB {H:Type} {enc:TypeId×Value→H} {W:World} {v0 v1 v2 v3:Value} {d0 d1 d2 d3:DataW H} {p0 p1 p2 p3:List MemPlace} {r:Reach} {b0:Nat} (k0:Value.okWide Tryz.prog W r b0 26 v0) (k1:Value.okWide Tryz.prog W r b0 26 v1) (k2:Value.okWide Tryz.prog W r b0 28 v2) (k3:Value.okWide Tryz.prog W r b0 3 v3) (s0:Small 26 d0) (s1:Small 26 d1) (s2:Small 28 d2) (s3:Small 3 d3) (h0:DataW.Trod enc Tryz.prog W 0 (fun _=>true) true 26 v0 d0 p0) (h1:DataW.Trod enc Tryz.prog W 0 (fun _=>true) true 26 v1 d1 p1) (h2:DataW.Trod enc Tryz.prog W 0 (fun _=>true) true 28 v2 d2 p2) (h3:DataW.Trod enc Tryz.prog W 0 (fun _=>true) true 3 v3 d3 p3) (hL:laidMetH Tryz.prog Rows.watchChecksRow.laid W):
 Calls Tryz.prog 3 #[v0,v1,v2,v3] W fun en w'=>en= .returned (.bool true)∧W.keptBut w' (fun _=>False):=by
 obtain ⟨c0,rfl,z0⟩:=okWide_struct Tryz.underlying26 k0
 have n0:c0.toList.length=3:=by rw[Array.length_toList,z0];exact I'
 obtain ⟨f0,h0⟩:=h0
 obtain ⟨c1,rfl,z1⟩:=okWide_struct Tryz.underlying26 k1
 have n1:c1.toList.length=3:=by rw[Array.length_toList,z1];exact I'
 obtain ⟨f1,h1⟩:=h1
 obtain ⟨c2,rfl,z2⟩:=okWide_struct Tryz.underlying28 k2
 have n2:c2.toList.length=4:=by rw[Array.length_toList,z2];exact I_
 obtain ⟨f2,h2⟩:=h2
 obtain ⟨a3,rfl⟩:=okWide_int Tryz.underlying3 k3
 obtain ⟨f3,h3⟩:=h3
 have ht:=YI hL
 have ok:OK env (VF 4) (j8 4 [pT]) W:=OK.begin (E:=env) fun x hx=>by
  have:x=pT:=by simpa using hx
  subst this
  exact ⟨by decide,ht⟩
 have G:Gx (VF 4) (VF 4) (j8 4 [pT]) (j8 4 [pT]) W:=Gx.refl ok wR.begin YJ
 obtain ⟨φ0,m0,x0,g0,l0,o0⟩:=MA (enc:=enc) (w:=W) (base:=0) (spare:=fun _=>true) (held:=true) _ _ G.ok G.ro G.tidy c0.toList _ f0 n0 s0 h0
 have G0:=Gx.trans G g0
 obtain ⟨φ1,m1,x1,g1,l1,o1⟩:=MA (enc:=enc) (w:=W) (base:=0) (spare:=fun _=>true) (held:=true) _ _ G0.ok G0.ro G0.tidy c1.toList _ f1 n1 s1 h1
 have G1:=Gx.trans G0 g1
 obtain ⟨φ2,m2,x2,g2,l2,o2⟩:=Mz (enc:=enc) (w:=W) (base:=0) (spare:=fun _=>true) (held:=true) _ _ G1.ok G1.ro G1.tidy c2.toList _ f2 n2 s2 h2
 have G2:=Gx.trans G1 g2
 obtain ⟨φ3,m3,x3,g3,l3,o3⟩:=eJ (enc:=enc) (w:=W) (base:=0) (spare:=fun _=>true) (held:=true) (t:=3) Tryz.underlying3 _ _ G2.ok G2.ro G2.tidy [_] _ f3 rfl s3 h3
 have G3:=Gx.trans G2 g3
 have L0:=LR.mono (Ph.le_trans (Ph.le_trans (Ph.le_trans (Ph.le_refl _) g1.le) g2.le) g3.le) l0
 have va0:VR φ3 (.agg (aH.c x0)) (.agg c0):=VR.agg _ _ (by rw[L0.1,Array.length_toList]) fun i x y a b=>L0.2 i x y a (by rw[Array.getElem?_toList];exact b)
 have L1:=LR.mono (Ph.le_trans (Ph.le_trans (Ph.le_refl _) g2.le) g3.le) l1
 have va1:VR φ3 (.agg (aH.c x1)) (.agg c1):=VR.agg _ _ (by rw[L1.1,Array.length_toList]) fun i x y a b=>L1.2 i x y a (by rw[Array.getElem?_toList];exact b)
 have L2:=LR.mono (Ph.le_trans (Ph.le_refl _) g3.le) l2
 have va2:VR φ3 (.agg (aH.c x2)) (.agg c2):=VR.agg _ _ (by rw[L2.1,Array.length_toList]) fun i x y a b=>L2.2 i x y a (by rw[Array.getElem?_toList];exact b)
 have L3:=LR.mono (Ph.le_refl _) l3
 have rr:=H' Qi aaf (U3 (d:=0) (h:=m3) x0 x1 x2 x3 (aH.mono ((((Has.refl _).trans g1.has).trans g2.has).trans g3.has) o0) (aH.mono (((Has.refl _).trans g2.has).trans g3.has) o1) (aH.mono ((Has.refl _).trans g3.has) o2) ((((g0.has.trans g1.has).trans g2.has).trans g3.has) _ _ abA) G3.tidy)
 rw[Sp] at rr
 exact Fu rr G3.ok (vs:=[.agg c0,.agg c1,.agg c2,_]) (LR.cons va0 (LR.cons va1 (LR.cons va2 (LR.cons (L3.2 0 _ _ rfl rfl) (LR.nil _))))) G3.ro
set_option maxRecDepth 100000 in
theorem lifted (os:Os) (started:os.Started) (H:Type) (enc:TypeId×Value→H):
 ReturnsInHanded {} Tryz.checked os 3 .any (fun w args=>(Rows.watchChecksSpec.pre enc Tryz.prog Tryz.f3 [] false w args∧laidMetH Tryz.prog Rows.watchChecksRow.laid w)∧sizedMet enc Tryz.prog Tryz.f3 (OpenSpec.ofChange Rows.watchChecksSpec) false w args)
  (Rows.watchChecksSpec.post enc Tryz.prog Tryz.f3 false true false false):=by
 refine returnsInHanded_of_change_and (C:=Tryz.checked) (X:=fun w _=>laidMetH Tryz.prog Rows.watchChecksRow.laid w) (fun _ _ _ hh h=>h.of_heap hh) own started (by kernel_rfl) Tryz.func3
  (ChangeSpec.witness_shaped (enc:=enc) (C:=Tryz.checked) (os:=os) (X:=fun w _=>laidMetH Tryz.prog Rows.watchChecksRow.laid w) false (World.laidAll Tryz.prog os Rows.watchChecksRow.laid) #[.agg #[.slice none 0 0,.slice none 0 0,.slice none 0 0],.agg #[.slice none 0 0,.slice none 0 0,.slice none 0 0],.agg #[.string ByteArray.empty,.int .i64 0,.int .i64 0,.int .i64 0],.int .i64 0] 8 (World.laidAll_os _ _ _)
   (World.shaped_of_ZipB (by kernel_rfl) (by kernel_rfl)) (by kernel_rfl) (by kernel_rfl) (by kernel_rfl)
   (by rw[MakeChecks.laidMetH_plain _ _ _ (by kernel_rfl)];exact laidMet_laidAll _ (by kernel_rfl) (by kernel_rfl))) ?_
 intro W base args ds gs before abC hW Jw hwt hL _
 have Sz:∀(j:Nat) t v,Tryz.f3.params[j]? =some t→args[j]? =some v→Value.okWide Tryz.prog W .any base t v:=abC
 have hW':=hW
 obtain ⟨p,q,hA0,hV,rfl,_,_⟩:=hW
 have hA:DataW.TrodAll enc Tryz.prog W 0 (fun _=>true) true Tryz.f3.params.toList args.toList ds p:=hA0
 have YK:(DataW.weightsEach Tryz.prog (Tryz.f3.params.toList++[]) (ds++gs)).all (· ≤reachBytes)=true:=hwt
 rw[params3] at hA YK
 rw[Ja] at Sz
 obtain ⟨rfl,rfl⟩:=trodVars_none hV
 obtain ⟨v0,v1,v2,v3,d0,d1,d2,d3,p0,p1,p2,p3,rfl,rfl,h0,h1,h2,h3⟩:=NZ hA
 have s0:=(Small.b4 (ts:=[26,28,3]) YK).1
 have u0:=(Small.b4 (ts:=[26,28,3]) YK).2
 have s1:=(Small.b4 (ts:=[28,3]) u0).1
 have u1:=(Small.b4 (ts:=[28,3]) u0).2
 have s2:=(Small.b4 (ts:=[3]) u1).1
 have u2:=(Small.b4 (ts:=[3]) u1).2
 have s3:=(Small.b4 (ts:=[]) u2).1
 have u3:=(Small.b4 (ts:=[]) u2).2
 refine (abB (Sz 0 26 v0 rfl rfl) (Sz 1 26 v1 rfl rfl) (Sz 2 28 v2 rfl rfl) (Sz 3 3 v3 rfl rfl) s0 s1 s2 s3 h0 h1 h2 h3 hL).mono fun e W' ⟨he,hk⟩=>?_
 subst he
 refine ⟨_,rfl,[d0,d1,d2,d3],[],_,[],p,[],hW',trodAll_mk1 (shut_bool Tryz.underlying4 _),?_,rfl,World.keptBut_mono (fun _ h=>h.elim) hk,fun h=>by cases h⟩
 have:=Ab.DX k2 hk NY hA
 rw[←params3] at this
 exact this
theorem N0:Rows.WatchChecksSaid:=
 OpenClaim.holds_of_wide 3 Tryz.f3 rfl rfl rfl rfl rfl rfl rfl ⟨rfl,rfl,rfl,rfl,rfl⟩ rfl rfl rfl rfl rfl Xq Tryz.func3 closed
  (of_decide_eq_true (by kernel_rfl)) (by unfold Func.isWrapper;first | (rw[if_pos (by decide+kernel)];kernel_rfl) | (rw[if_neg (by decide+kernel)];exact ⟨rfl,rfl⟩))
  (fun os started H enc _=>lifted os started H enc)
theorem MB:Tryz.prog.wantsStandIn 26=false:=by kernel_rfl
theorem Va:Tryz.prog.wantsStandIn 28=false:=by kernel_rfl
theorem YL:Tryz.prog.wantsStandIn 3=false:=by kernel_rfl
theorem watchChecks_holds:Rows.WatchChecksCardSaid:=
 Claim7.holds_tied_plain_at .later [] [.data,.data,.data] true (true, "ca217e9c4d05e85654decf971985f874a07f9ac9822b1cb13d4f56b618b013c7") false
  N0 (fun _ h=>by cases h) (by kernel_rfl) (fun _ h=>by cases h) watchChecks_row_tie rfl ⟨rfl,rfl⟩ (by kernel_rfl) rfl
  (fun f fn hf wa=>by
   obtain rfl:f=3:=Option.some.inj ((show Tryz.prog.funcNamed _=some 3 by kernel_rfl).symm.trans hf)|>.symm
   obtain rfl:fn=Tryz.f3:=(Option.some.inj (Tryz.func3.symm.trans wa)).symm
   exact ⟨by kernel_rfl,fun j t ht=>by
    rw[Ja] at ht
    have hm:t∈ [26,26,28,3]:=by rw[show ([26,26,28,3]:List TypeId)=(#[26,26,28,3]:Array TypeId).toList from rfl];exact Array.mem_toList_iff.2 (Array.mem_of_getElem? ht)
    simp only[List.mem_cons,List.not_mem_nil,or_false] at hm
    rcases hm with rfl | rfl | rfl | rfl
    · exact MB
    · exact MB
    · exact Va
    · exact YL⟩)
  (by kernel_rfl)
#print axioms watchChecks_holds
end Go.Proofs.YtmbkbhleedecdaaGreatDoor
