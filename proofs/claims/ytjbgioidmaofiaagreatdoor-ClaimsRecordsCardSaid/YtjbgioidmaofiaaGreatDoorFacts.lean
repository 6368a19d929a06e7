import Derived.Test.YtjbgioidmaofiaaGreatDoorRows
import Derived.ProofKit
namespace Go.Proofs.YtjbgioidmaofiaaGreatDoor
section
set_option maxRecDepth 100000
theorem k1:(Rows.claimsRecordsRow.wf (Go.OpenSpec.ofChange Rows.claimsRecordsSpec))=true:=by kernel_rfl
theorem k2:(laidOutB Tryz.prog)=true:=by kernel_rfl
theorem k3:(mapsRowed Tryz.prog)=true:=by kernel_rfl
theorem k4:(Tryz.f3.params.all (Tryz.prog.readableRec ·))=true:=by kernel_rfl
theorem k5:(Go.namedTie Tryz.prog Rows.claimsRecordsRow.named Rows.claimsRecordsSpec.vars)=true:=by kernel_rfl
theorem k6:((Rows.claimsRecordsRow.stops== []))=true:=by kernel_rfl
theorem k7:((Tryz.prog.stops== []))=true:=by kernel_rfl
theorem k8:((Rows.claimsRecordsRow.knobs== []))=true:=by kernel_rfl
theorem k9:((Tryz.prog.stopKnobs== []))=true:=by kernel_rfl
theorem yE:((Rows.claimsRecordsRow.inPlace==Tryz.prog.inPlace 3))=true:=by kernel_rfl
theorem Be:((Rows.claimsRecordsRow.unfollowed==Tryz.prog.unfollowed 3))=true:=by kernel_rfl
theorem YF:((Rows.claimsRecordsRow.recurses==Tryz.prog.recurses 3))=true:=by kernel_rfl
theorem Rp:((Rows.claimsRecordsRow.named==Tryz.prog.varsNamed 3))=true:=by kernel_rfl
theorem YG:((Rows.claimsRecordsRow.maps==(Tryz.f3.params.toList++Rows.claimsRecordsSpec.plain.varTypes Tryz.prog).any (Tryz.prog.mapsRec ·)))=true:=by kernel_rfl
theorem Ob:((Rows.claimsRecordsRow.ifaces==(Tryz.f3.params.toList++Rows.claimsRecordsSpec.plain.varTypes Tryz.prog).any (Tryz.prog.ifacesRec ·)))=true:=by kernel_rfl
theorem k16:((Rows.claimsRecordsRow.mapsOut==Tryz.prog.mapsAmong Tryz.f3.resultTypes.toList))=true:=by kernel_rfl
theorem UT:((Rows.claimsRecordsRow.loops==(Tryz.f3.params.toList++Rows.claimsRecordsSpec.plain.varTypes Tryz.prog).any (Tryz.prog.loopsFrom ·)))=true:=by kernel_rfl
theorem k18:((Rows.claimsRecordsRow.wideKeys==(Tryz.f3.params.toList++Rows.claimsRecordsSpec.plain.varTypes Tryz.prog++Tryz.f3.resultTypes.toList).any (Tryz.prog.wideKeysFrom ·)))=true:=by kernel_rfl
theorem k19:(Rows.claimsRecordsSpec.vars.all (Tryz.prog.varReadable ·))=true:=by kernel_rfl
theorem k20:(Tryz.f3.resultTypes.all (fun t=>Tryz.prog.readableRec t&&decide (t<Tryz.prog.types.size)))=true:=by kernel_rfl
theorem Oc:((Rows.claimsRecordsRow.ifacesOut==Tryz.f3.resultTypes.toList.any (Tryz.prog.ifacesRec ·)))=true:=by kernel_rfl
theorem k22:((Rows.claimsRecordsRow.loopsOut==Tryz.f3.resultTypes.toList.any (Tryz.prog.loopsFrom ·)))=true:=by kernel_rfl
theorem P1:((Rows.claimsRecordsRow.plainKeys==Tryz.prog.plainKeys))=true:=by kernel_rfl
theorem P2:(Rows.claimsRecordsRow.shortTexts.isNone)=true:=by kernel_rfl
theorem k25:(Tryz.prog.stopsHeard)=true:=by kernel_rfl
theorem k26:(Tryz.prog.mayEnter)=true:=by kernel_rfl
theorem k27:((Rows.claimsRecordsRow.lifted==Tryz.prog.liftsFinal))=true:=by kernel_rfl
theorem k28:((Tryz.prog.make==some Rows.claimsRecordsRow.make))=true:=by kernel_rfl
theorem k29:((Rows.claimsRecordsRow.kinds==(if Rows.claimsRecordsRow.domain.isEmpty then [] else Tryz.f3.params.toList.map fun t=>match Tryz.prog.underlying t with | some (.int k)=>some k | _=>none)))=true:=by kernel_rfl
theorem k30:((Rows.claimsRecordsRow.pinned==Rows.claimsRecordsRow.pinnedBy))=true:=by kernel_rfl
theorem k31:((Rows.claimsRecordsRow.veiled==(Tryz.f3.params.toList++Rows.claimsRecordsSpec.plain.varTypes Tryz.prog++Tryz.f3.resultTypes.toList).any (Tryz.prog.veiledRec ·)))=true:=by kernel_rfl
theorem k32:(Rows.claimsRecordsRow.veiledFits Tryz.prog Tryz.f3.params.toList (Tryz.f3.params.toList++Rows.claimsRecordsSpec.plain.varTypes Tryz.prog++Tryz.f3.resultTypes.toList))=true:=by kernel_rfl
theorem both {a b:Bool} (h:a=true) (g:b=true):(a&&b)=true:=by rw[h,g];rfl
theorem closed:Go.joinedFacts Tryz.prog 3 Tryz.f3 Rows.claimsRecordsSpec Rows.claimsRecordsRow=true:=(both (both (both (both (both (both (both (both (both (both (both (both (both (both (both (both (both (both (both (both (both (both (both (both (both (both (both (both (both (both (both k1 k2) k3) k4) k5) k6) k7) k8) k9) yE) Be) YF) Rp) YG) Ob) k16) UT) k18) k19) k20) Oc) k22) P1) P2) k25) k26) k27) k28) k29) k30) k31) k32)
theorem Tb:Tryz.prog.funcNamed Rows.claimsRecordsRow.func=some 3:=by kernel_rfl
end
end Go.Proofs.YtjbgioidmaofiaaGreatDoor
