import Derived.Test.YtobmbjlcklkpoaaRows
import Derived.ProofKit
namespace Go.Proofs.Ytobmbjlcklkpoaa
section
set_option maxRecDepth 100000
theorem k1:(Rows.watchPossibleRow.wf (Go.OpenSpec.ofChange Rows.watchPossibleSpec))=true:=by kernel_rfl
theorem k2:(laidOutB Try.prog)=true:=by kernel_rfl
theorem k3:(mapsRowed Try.prog)=true:=by kernel_rfl
theorem k4:(Try.f3.params.all (Try.prog.readableRec ·))=true:=by kernel_rfl
theorem k5:(Go.namedTie Try.prog Rows.watchPossibleRow.named Rows.watchPossibleSpec.vars)=true:=by kernel_rfl
theorem k6:((Rows.watchPossibleRow.stops== []))=true:=by kernel_rfl
theorem k7:((Try.prog.stops== []))=true:=by kernel_rfl
theorem k8:((Rows.watchPossibleRow.knobs== []))=true:=by kernel_rfl
theorem k9:((Try.prog.stopKnobs== []))=true:=by kernel_rfl
theorem k10:((Rows.watchPossibleRow.inPlace==Try.prog.inPlace 3))=true:=by kernel_rfl
theorem BL:((Rows.watchPossibleRow.unfollowed==Try.prog.unfollowed 3))=true:=by kernel_rfl
theorem k12:((Rows.watchPossibleRow.recurses==Try.prog.recurses 3))=true:=by kernel_rfl
theorem k13:((Rows.watchPossibleRow.named==Try.prog.varsNamed 3))=true:=by kernel_rfl
theorem k14:((Rows.watchPossibleRow.maps==(Try.f3.params.toList++Rows.watchPossibleSpec.plain.varTypes Try.prog).any (Try.prog.mapsRec ·)))=true:=by kernel_rfl
theorem Po:((Rows.watchPossibleRow.ifaces==(Try.f3.params.toList++Rows.watchPossibleSpec.plain.varTypes Try.prog).any (Try.prog.ifacesRec ·)))=true:=by kernel_rfl
theorem k16:((Rows.watchPossibleRow.mapsOut==Try.prog.mapsAmong Try.f3.resultTypes.toList))=true:=by kernel_rfl
theorem k17:((Rows.watchPossibleRow.loops==(Try.f3.params.toList++Rows.watchPossibleSpec.plain.varTypes Try.prog).any (Try.prog.loopsFrom ·)))=true:=by kernel_rfl
theorem k18:((Rows.watchPossibleRow.wideKeys==(Try.f3.params.toList++Rows.watchPossibleSpec.plain.varTypes Try.prog++Try.f3.resultTypes.toList).any (Try.prog.wideKeysFrom ·)))=true:=by kernel_rfl
theorem k19:(Rows.watchPossibleSpec.vars.all (Try.prog.varReadable ·))=true:=by kernel_rfl
theorem VW:(Try.f3.resultTypes.all (fun t=>Try.prog.readableRec t&&decide (t<Try.prog.types.size)))=true:=by kernel_rfl
theorem k21:((Rows.watchPossibleRow.ifacesOut==Try.f3.resultTypes.toList.any (Try.prog.ifacesRec ·)))=true:=by kernel_rfl
theorem k22:((Rows.watchPossibleRow.loopsOut==Try.f3.resultTypes.toList.any (Try.prog.loopsFrom ·)))=true:=by kernel_rfl
theorem k23:((Rows.watchPossibleRow.plainKeys==Try.prog.plainKeys))=true:=by kernel_rfl
theorem k24:(Rows.watchPossibleRow.shortTexts.isNone)=true:=by kernel_rfl
theorem k25:(Try.prog.stopsHeard)=true:=by kernel_rfl
theorem k26:(Try.prog.mayEnter)=true:=by kernel_rfl
theorem k27:((Rows.watchPossibleRow.lifted==Try.prog.liftsFinal))=true:=by kernel_rfl
theorem k28:((Try.prog.make==some Rows.watchPossibleRow.make))=true:=by kernel_rfl
theorem k29:((Rows.watchPossibleRow.kinds==(if Rows.watchPossibleRow.domain.isEmpty then [] else Try.f3.params.toList.map fun t=>match Try.prog.underlying t with | some (.int k)=>some k | _=>none)))=true:=by kernel_rfl
theorem k30:((Rows.watchPossibleRow.pinned==Rows.watchPossibleRow.pinnedBy))=true:=by kernel_rfl
theorem k31:((Rows.watchPossibleRow.veiled==(Try.f3.params.toList++Rows.watchPossibleSpec.plain.varTypes Try.prog++Try.f3.resultTypes.toList).any (Try.prog.veiledRec ·)))=true:=by kernel_rfl
theorem k32:(Rows.watchPossibleRow.veiledFits Try.prog Try.f3.params.toList (Try.f3.params.toList++Rows.watchPossibleSpec.plain.varTypes Try.prog++Try.f3.resultTypes.toList))=true:=by kernel_rfl
theorem both {a b:Bool} (h:a=true) (g:b=true):(a&&b)=true:=by rw[h,g];rfl
theorem closed:Go.joinedFacts Try.prog 3 Try.f3 Rows.watchPossibleSpec Rows.watchPossibleRow=true:=(both (both (both (both (both (both (both (both (both (both (both (both (both (both (both (both (both (both (both (both (both (both (both (both (both (both (both (both (both (both (both k1 k2) k3) k4) k5) k6) k7) k8) k9) k10) BL) k12) k13) k14) Po) k16) k17) k18) k19) VW) k21) k22) k23) k24) k25) k26) k27) k28) k29) k30) k31) k32)
theorem Za:Try.prog.funcNamed Rows.watchPossibleRow.func=some 3:=by kernel_rfl
end
end Go.Proofs.Ytobmbjlcklkpoaa
