import Derived.Test.YtfllahfbmaafcaaRows
import Derived.ProofKit
namespace Go.Proofs.Ytfllahfbmaafcaa
section
set_option maxRecDepth 100000
theorem k1:(Rows.watchWitnessRow.wf (Go.OpenSpec.ofChange Rows.watchWitnessSpec))=true:=by kernel_rfl
theorem k2:(laidOutB Try.prog)=true:=by kernel_rfl
theorem k3:(mapsRowed Try.prog)=true:=by kernel_rfl
theorem k4:(Try.f3.params.all (Try.prog.readableRec ·))=true:=by kernel_rfl
theorem k5:(Go.namedTie Try.prog Rows.watchWitnessRow.named Rows.watchWitnessSpec.vars)=true:=by kernel_rfl
theorem k6:((Rows.watchWitnessRow.stops== []))=true:=by kernel_rfl
theorem k7:((Try.prog.stops== []))=true:=by kernel_rfl
theorem k8:((Rows.watchWitnessRow.knobs== []))=true:=by kernel_rfl
theorem k9:((Try.prog.stopKnobs== []))=true:=by kernel_rfl
theorem k10:((Rows.watchWitnessRow.inPlace==Try.prog.inPlace 3))=true:=by kernel_rfl
theorem Sx:((Rows.watchWitnessRow.unfollowed==Try.prog.unfollowed 3))=true:=by kernel_rfl
theorem k12:((Rows.watchWitnessRow.recurses==Try.prog.recurses 3))=true:=by kernel_rfl
theorem U_:((Rows.watchWitnessRow.named==Try.prog.varsNamed 3))=true:=by kernel_rfl
theorem k14:((Rows.watchWitnessRow.maps==(Try.f3.params.toList++Rows.watchWitnessSpec.plain.varTypes Try.prog).any (Try.prog.mapsRec ·)))=true:=by kernel_rfl
theorem Kv:((Rows.watchWitnessRow.ifaces==(Try.f3.params.toList++Rows.watchWitnessSpec.plain.varTypes Try.prog).any (Try.prog.ifacesRec ·)))=true:=by kernel_rfl
theorem k16:((Rows.watchWitnessRow.mapsOut==Try.prog.mapsAmong Try.f3.resultTypes.toList))=true:=by kernel_rfl
theorem Ya:((Rows.watchWitnessRow.loops==(Try.f3.params.toList++Rows.watchWitnessSpec.plain.varTypes Try.prog).any (Try.prog.loopsFrom ·)))=true:=by kernel_rfl
theorem k18:((Rows.watchWitnessRow.wideKeys==(Try.f3.params.toList++Rows.watchWitnessSpec.plain.varTypes Try.prog++Try.f3.resultTypes.toList).any (Try.prog.wideKeysFrom ·)))=true:=by kernel_rfl
theorem U':(Rows.watchWitnessSpec.vars.all (Try.prog.varReadable ·))=true:=by kernel_rfl
theorem k20:(Try.f3.resultTypes.all (fun t=>Try.prog.readableRec t&&decide (t<Try.prog.types.size)))=true:=by kernel_rfl
theorem k21:((Rows.watchWitnessRow.ifacesOut==Try.f3.resultTypes.toList.any (Try.prog.ifacesRec ·)))=true:=by kernel_rfl
theorem k22:((Rows.watchWitnessRow.loopsOut==Try.f3.resultTypes.toList.any (Try.prog.loopsFrom ·)))=true:=by kernel_rfl
theorem k23:((Rows.watchWitnessRow.plainKeys==Try.prog.plainKeys))=true:=by kernel_rfl
theorem k24:(Rows.watchWitnessRow.shortTexts.isNone)=true:=by kernel_rfl
theorem k25:(Try.prog.stopsHeard)=true:=by kernel_rfl
theorem k26:(Try.prog.mayEnter)=true:=by kernel_rfl
theorem k27:((Rows.watchWitnessRow.lifted==Try.prog.liftsFinal))=true:=by kernel_rfl
theorem k28:((Try.prog.make==some Rows.watchWitnessRow.make))=true:=by kernel_rfl
theorem k29:((Rows.watchWitnessRow.kinds==(if Rows.watchWitnessRow.domain.isEmpty then [] else Try.f3.params.toList.map fun t=>match Try.prog.underlying t with | some (.int k)=>some k | _=>none)))=true:=by kernel_rfl
theorem k30:((Rows.watchWitnessRow.pinned==Rows.watchWitnessRow.pinnedBy))=true:=by kernel_rfl
theorem k31:((Rows.watchWitnessRow.veiled==(Try.f3.params.toList++Rows.watchWitnessSpec.plain.varTypes Try.prog++Try.f3.resultTypes.toList).any (Try.prog.veiledRec ·)))=true:=by kernel_rfl
theorem k32:(Rows.watchWitnessRow.veiledFits Try.prog Try.f3.params.toList (Try.f3.params.toList++Rows.watchWitnessSpec.plain.varTypes Try.prog++Try.f3.resultTypes.toList))=true:=by kernel_rfl
theorem both {a b:Bool} (h:a=true) (g:b=true):(a&&b)=true:=by rw[h,g];rfl
theorem closed:Go.joinedFacts Try.prog 3 Try.f3 Rows.watchWitnessSpec Rows.watchWitnessRow=true:=(both (both (both (both (both (both (both (both (both (both (both (both (both (both (both (both (both (both (both (both (both (both (both (both (both (both (both (both (both (both (both k1 k2) k3) k4) k5) k6) k7) k8) k9) k10) Sx) k12) U_) k14) Kv) k16) Ya) k18) U') k20) k21) k22) k23) k24) k25) k26) k27) k28) k29) k30) k31) k32)
theorem ZV:Try.prog.funcNamed Rows.watchWitnessRow.func=some 3:=by kernel_rfl
end
end Go.Proofs.Ytfllahfbmaafcaa
