import Derived.Test.YtfllahfbmaafcaaRows
import Derived.ProofKit
namespace Go.Proofs.Ytfllahfbmaafcaa
section
set_option maxRecDepth 100000
theorem k1:(Rows.watchSoundRow.wf (Go.OpenSpec.ofChange Rows.watchSoundSpec))=true:=by kernel_rfl
theorem k2:(laidOutB Try.prog)=true:=by kernel_rfl
theorem k3:(mapsRowed Try.prog)=true:=by kernel_rfl
theorem k4:(Try.f5.params.all (Try.prog.readableRec ·))=true:=by kernel_rfl
theorem k5:(Go.namedTie Try.prog Rows.watchSoundRow.named Rows.watchSoundSpec.vars)=true:=by kernel_rfl
theorem k6:((Rows.watchSoundRow.stops== []))=true:=by kernel_rfl
theorem k7:((Try.prog.stops== []))=true:=by kernel_rfl
theorem k8:((Rows.watchSoundRow.knobs== []))=true:=by kernel_rfl
theorem k9:((Try.prog.stopKnobs== []))=true:=by kernel_rfl
theorem QP:((Rows.watchSoundRow.inPlace==Try.prog.inPlace 5))=true:=by kernel_rfl
theorem LG:((Rows.watchSoundRow.unfollowed==Try.prog.unfollowed 5))=true:=by kernel_rfl
theorem k12:((Rows.watchSoundRow.recurses==Try.prog.recurses 5))=true:=by kernel_rfl
theorem k13:((Rows.watchSoundRow.named==Try.prog.varsNamed 5))=true:=by kernel_rfl
theorem k14:((Rows.watchSoundRow.maps==(Try.f5.params.toList++Rows.watchSoundSpec.plain.varTypes Try.prog).any (Try.prog.mapsRec ·)))=true:=by kernel_rfl
theorem k15:((Rows.watchSoundRow.ifaces==(Try.f5.params.toList++Rows.watchSoundSpec.plain.varTypes Try.prog).any (Try.prog.ifacesRec ·)))=true:=by kernel_rfl
theorem k16:((Rows.watchSoundRow.mapsOut==Try.prog.mapsAmong Try.f5.resultTypes.toList))=true:=by kernel_rfl
theorem k17:((Rows.watchSoundRow.loops==(Try.f5.params.toList++Rows.watchSoundSpec.plain.varTypes Try.prog).any (Try.prog.loopsFrom ·)))=true:=by kernel_rfl
theorem k18:((Rows.watchSoundRow.wideKeys==(Try.f5.params.toList++Rows.watchSoundSpec.plain.varTypes Try.prog++Try.f5.resultTypes.toList).any (Try.prog.wideKeysFrom ·)))=true:=by kernel_rfl
theorem k19:(Rows.watchSoundSpec.vars.all (Try.prog.varReadable ·))=true:=by kernel_rfl
theorem k20:(Try.f5.resultTypes.all (fun t=>Try.prog.readableRec t&&decide (t<Try.prog.types.size)))=true:=by kernel_rfl
theorem k21:((Rows.watchSoundRow.ifacesOut==Try.f5.resultTypes.toList.any (Try.prog.ifacesRec ·)))=true:=by kernel_rfl
theorem k22:((Rows.watchSoundRow.loopsOut==Try.f5.resultTypes.toList.any (Try.prog.loopsFrom ·)))=true:=by kernel_rfl
theorem k23:((Rows.watchSoundRow.plainKeys==Try.prog.plainKeys))=true:=by kernel_rfl
theorem k24:(Rows.watchSoundRow.shortTexts.isNone)=true:=by kernel_rfl
theorem k25:(Try.prog.stopsHeard)=true:=by kernel_rfl
theorem k26:(Try.prog.mayEnter)=true:=by kernel_rfl
theorem k27:((Rows.watchSoundRow.lifted==Try.prog.liftsFinal))=true:=by kernel_rfl
theorem k28:((Try.prog.make==some Rows.watchSoundRow.make))=true:=by kernel_rfl
theorem k29:((Rows.watchSoundRow.kinds==(if Rows.watchSoundRow.domain.isEmpty then [] else Try.f5.params.toList.map fun t=>match Try.prog.underlying t with | some (.int k)=>some k | _=>none)))=true:=by kernel_rfl
theorem k30:((Rows.watchSoundRow.pinned==Rows.watchSoundRow.pinnedBy))=true:=by kernel_rfl
theorem k31:((Rows.watchSoundRow.veiled==(Try.f5.params.toList++Rows.watchSoundSpec.plain.varTypes Try.prog++Try.f5.resultTypes.toList).any (Try.prog.veiledRec ·)))=true:=by kernel_rfl
theorem k32:(Rows.watchSoundRow.veiledFits Try.prog Try.f5.params.toList (Try.f5.params.toList++Rows.watchSoundSpec.plain.varTypes Try.prog++Try.f5.resultTypes.toList))=true:=by kernel_rfl
theorem both {a b:Bool} (h:a=true) (g:b=true):(a&&b)=true:=by rw[h,g];rfl
theorem closed:Go.joinedFacts Try.prog 5 Try.f5 Rows.watchSoundSpec Rows.watchSoundRow=true:=(both (both (both (both (both (both (both (both (both (both (both (both (both (both (both (both (both (both (both (both (both (both (both (both (both (both (both (both (both (both (both k1 k2) k3) k4) k5) k6) k7) k8) k9) QP) LG) k12) k13) k14) k15) k16) k17) k18) k19) k20) k21) k22) k23) k24) k25) k26) k27) k28) k29) k30) k31) k32)
theorem aa2:Try.prog.funcNamed Rows.watchSoundRow.func=some 5:=by kernel_rfl
end
end Go.Proofs.Ytfllahfbmaafcaa
