import Derived.Test.YtfllahfbmaafcaaRows
import Derived.ProofKit
namespace Go.Proofs.Ytfllahfbmaafcaa
section
set_option maxRecDepth 100000
theorem k1:(Rows.watchShrinksRow.wf (Go.OpenSpec.ofChange Rows.watchShrinksSpec))=true:=by kernel_rfl
theorem k2:(laidOutB Try.prog)=true:=by kernel_rfl
theorem k3:(mapsRowed Try.prog)=true:=by kernel_rfl
theorem k4:(Try.f4.params.all (Try.prog.readableRec ·))=true:=by kernel_rfl
theorem k5:(Go.namedTie Try.prog Rows.watchShrinksRow.named Rows.watchShrinksSpec.vars)=true:=by kernel_rfl
theorem k6:((Rows.watchShrinksRow.stops== []))=true:=by kernel_rfl
theorem k7:((Try.prog.stops== []))=true:=by kernel_rfl
theorem k8:((Rows.watchShrinksRow.knobs== []))=true:=by kernel_rfl
theorem k9:((Try.prog.stopKnobs== []))=true:=by kernel_rfl
theorem k10:((Rows.watchShrinksRow.inPlace==Try.prog.inPlace 4))=true:=by kernel_rfl
theorem HG:((Rows.watchShrinksRow.unfollowed==Try.prog.unfollowed 4))=true:=by kernel_rfl
theorem k12:((Rows.watchShrinksRow.recurses==Try.prog.recurses 4))=true:=by kernel_rfl
theorem YG:((Rows.watchShrinksRow.named==Try.prog.varsNamed 4))=true:=by kernel_rfl
theorem k14:((Rows.watchShrinksRow.maps==(Try.f4.params.toList++Rows.watchShrinksSpec.plain.varTypes Try.prog).any (Try.prog.mapsRec ·)))=true:=by kernel_rfl
theorem YH:((Rows.watchShrinksRow.ifaces==(Try.f4.params.toList++Rows.watchShrinksSpec.plain.varTypes Try.prog).any (Try.prog.ifacesRec ·)))=true:=by kernel_rfl
theorem k16:((Rows.watchShrinksRow.mapsOut==Try.prog.mapsAmong Try.f4.resultTypes.toList))=true:=by kernel_rfl
theorem k17:((Rows.watchShrinksRow.loops==(Try.f4.params.toList++Rows.watchShrinksSpec.plain.varTypes Try.prog).any (Try.prog.loopsFrom ·)))=true:=by kernel_rfl
theorem k18:((Rows.watchShrinksRow.wideKeys==(Try.f4.params.toList++Rows.watchShrinksSpec.plain.varTypes Try.prog++Try.f4.resultTypes.toList).any (Try.prog.wideKeysFrom ·)))=true:=by kernel_rfl
theorem k19:(Rows.watchShrinksSpec.vars.all (Try.prog.varReadable ·))=true:=by kernel_rfl
theorem k20:(Try.f4.resultTypes.all (fun t=>Try.prog.readableRec t&&decide (t<Try.prog.types.size)))=true:=by kernel_rfl
theorem k21:((Rows.watchShrinksRow.ifacesOut==Try.f4.resultTypes.toList.any (Try.prog.ifacesRec ·)))=true:=by kernel_rfl
theorem k22:((Rows.watchShrinksRow.loopsOut==Try.f4.resultTypes.toList.any (Try.prog.loopsFrom ·)))=true:=by kernel_rfl
theorem k23:((Rows.watchShrinksRow.plainKeys==Try.prog.plainKeys))=true:=by kernel_rfl
theorem k24:(Rows.watchShrinksRow.shortTexts.isNone)=true:=by kernel_rfl
theorem k25:(Try.prog.stopsHeard)=true:=by kernel_rfl
theorem k26:(Try.prog.mayEnter)=true:=by kernel_rfl
theorem k27:((Rows.watchShrinksRow.lifted==Try.prog.liftsFinal))=true:=by kernel_rfl
theorem k28:((Try.prog.make==some Rows.watchShrinksRow.make))=true:=by kernel_rfl
theorem O4:((Rows.watchShrinksRow.kinds==(if Rows.watchShrinksRow.domain.isEmpty then [] else Try.f4.params.toList.map fun t=>match Try.prog.underlying t with | some (.int k)=>some k | _=>none)))=true:=by kernel_rfl
theorem k30:((Rows.watchShrinksRow.pinned==Rows.watchShrinksRow.pinnedBy))=true:=by kernel_rfl
theorem k31:((Rows.watchShrinksRow.veiled==(Try.f4.params.toList++Rows.watchShrinksSpec.plain.varTypes Try.prog++Try.f4.resultTypes.toList).any (Try.prog.veiledRec ·)))=true:=by kernel_rfl
theorem k32:(Rows.watchShrinksRow.veiledFits Try.prog Try.f4.params.toList (Try.f4.params.toList++Rows.watchShrinksSpec.plain.varTypes Try.prog++Try.f4.resultTypes.toList))=true:=by kernel_rfl
theorem both {a b:Bool} (h:a=true) (g:b=true):(a&&b)=true:=by rw[h,g];rfl
theorem closed:Go.joinedFacts Try.prog 4 Try.f4 Rows.watchShrinksSpec Rows.watchShrinksRow=true:=(both (both (both (both (both (both (both (both (both (both (both (both (both (both (both (both (both (both (both (both (both (both (both (both (both (both (both (both (both (both (both k1 k2) k3) k4) k5) k6) k7) k8) k9) k10) HG) k12) YG) k14) YH) k16) k17) k18) k19) k20) k21) k22) k23) k24) k25) k26) k27) k28) O4) k30) k31) k32)
theorem W0:Try.prog.funcNamed Rows.watchShrinksRow.func=some 4:=by kernel_rfl
end
end Go.Proofs.Ytfllahfbmaafcaa
