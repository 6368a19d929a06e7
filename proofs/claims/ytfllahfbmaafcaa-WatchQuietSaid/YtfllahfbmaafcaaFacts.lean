import Derived.Test.YtfllahfbmaafcaaRows
import Derived.ProofKit
namespace Go.Proofs.Ytfllahfbmaafcaa
section
set_option maxRecDepth 100000
theorem k1:(Rows.watchQuietRow.wf (Go.OpenSpec.ofChange Rows.watchQuietSpec))=true:=by kernel_rfl
theorem k2:(laidOutB Try.prog)=true:=by kernel_rfl
theorem k3:(mapsRowed Try.prog)=true:=by kernel_rfl
theorem k4:(Try.f6.params.all (Try.prog.readableRec ·))=true:=by kernel_rfl
theorem k5:(Go.namedTie Try.prog Rows.watchQuietRow.named Rows.watchQuietSpec.vars)=true:=by kernel_rfl
theorem k6:((Rows.watchQuietRow.stops== []))=true:=by kernel_rfl
theorem k7:((Try.prog.stops== []))=true:=by kernel_rfl
theorem k8:((Rows.watchQuietRow.knobs== []))=true:=by kernel_rfl
theorem k9:((Try.prog.stopKnobs== []))=true:=by kernel_rfl
theorem Qa:((Rows.watchQuietRow.inPlace==Try.prog.inPlace 6))=true:=by kernel_rfl
theorem KY:((Rows.watchQuietRow.unfollowed==Try.prog.unfollowed 6))=true:=by kernel_rfl
theorem k12:((Rows.watchQuietRow.recurses==Try.prog.recurses 6))=true:=by kernel_rfl
theorem Vc:((Rows.watchQuietRow.named==Try.prog.varsNamed 6))=true:=by kernel_rfl
theorem k14:((Rows.watchQuietRow.maps==(Try.f6.params.toList++Rows.watchQuietSpec.plain.varTypes Try.prog).any (Try.prog.mapsRec ·)))=true:=by kernel_rfl
theorem k15:((Rows.watchQuietRow.ifaces==(Try.f6.params.toList++Rows.watchQuietSpec.plain.varTypes Try.prog).any (Try.prog.ifacesRec ·)))=true:=by kernel_rfl
theorem k16:((Rows.watchQuietRow.mapsOut==Try.prog.mapsAmong Try.f6.resultTypes.toList))=true:=by kernel_rfl
theorem k17:((Rows.watchQuietRow.loops==(Try.f6.params.toList++Rows.watchQuietSpec.plain.varTypes Try.prog).any (Try.prog.loopsFrom ·)))=true:=by kernel_rfl
theorem k18:((Rows.watchQuietRow.wideKeys==(Try.f6.params.toList++Rows.watchQuietSpec.plain.varTypes Try.prog++Try.f6.resultTypes.toList).any (Try.prog.wideKeysFrom ·)))=true:=by kernel_rfl
theorem k19:(Rows.watchQuietSpec.vars.all (Try.prog.varReadable ·))=true:=by kernel_rfl
theorem k20:(Try.f6.resultTypes.all (fun t=>Try.prog.readableRec t&&decide (t<Try.prog.types.size)))=true:=by kernel_rfl
theorem k21:((Rows.watchQuietRow.ifacesOut==Try.f6.resultTypes.toList.any (Try.prog.ifacesRec ·)))=true:=by kernel_rfl
theorem k22:((Rows.watchQuietRow.loopsOut==Try.f6.resultTypes.toList.any (Try.prog.loopsFrom ·)))=true:=by kernel_rfl
theorem k23:((Rows.watchQuietRow.plainKeys==Try.prog.plainKeys))=true:=by kernel_rfl
theorem k24:(Rows.watchQuietRow.shortTexts.isNone)=true:=by kernel_rfl
theorem k25:(Try.prog.stopsHeard)=true:=by kernel_rfl
theorem k26:(Try.prog.mayEnter)=true:=by kernel_rfl
theorem k27:((Rows.watchQuietRow.lifted==Try.prog.liftsFinal))=true:=by kernel_rfl
theorem k28:((Try.prog.make==some Rows.watchQuietRow.make))=true:=by kernel_rfl
theorem k29:((Rows.watchQuietRow.kinds==(if Rows.watchQuietRow.domain.isEmpty then [] else Try.f6.params.toList.map fun t=>match Try.prog.underlying t with | some (.int k)=>some k | _=>none)))=true:=by kernel_rfl
theorem k30:((Rows.watchQuietRow.pinned==Rows.watchQuietRow.pinnedBy))=true:=by kernel_rfl
theorem k31:((Rows.watchQuietRow.veiled==(Try.f6.params.toList++Rows.watchQuietSpec.plain.varTypes Try.prog++Try.f6.resultTypes.toList).any (Try.prog.veiledRec ·)))=true:=by kernel_rfl
theorem k32:(Rows.watchQuietRow.veiledFits Try.prog Try.f6.params.toList (Try.f6.params.toList++Rows.watchQuietSpec.plain.varTypes Try.prog++Try.f6.resultTypes.toList))=true:=by kernel_rfl
theorem both {a b:Bool} (h:a=true) (g:b=true):(a&&b)=true:=by rw[h,g];rfl
theorem closed:Go.joinedFacts Try.prog 6 Try.f6 Rows.watchQuietSpec Rows.watchQuietRow=true:=(both (both (both (both (both (both (both (both (both (both (both (both (both (both (both (both (both (both (both (both (both (both (both (both (both (both (both (both (both (both (both k1 k2) k3) k4) k5) k6) k7) k8) k9) Qa) KY) k12) Vc) k14) k15) k16) k17) k18) k19) k20) k21) k22) k23) k24) k25) k26) k27) k28) k29) k30) k31) k32)
theorem aau:Try.prog.funcNamed Rows.watchQuietRow.func=some 6:=by kernel_rfl
end
end Go.Proofs.Ytfllahfbmaafcaa
