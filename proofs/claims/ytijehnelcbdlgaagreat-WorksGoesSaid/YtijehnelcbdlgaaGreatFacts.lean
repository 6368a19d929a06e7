import Derived.Test.YtijehnelcbdlgaaGreatRows
import Derived.ProofKit
namespace Go.Proofs.YtijehnelcbdlgaaGreat
section
set_option maxRecDepth 100000
theorem k1:(Rows.worksGoesRow.wf (Go.OpenSpec.ofChange Rows.worksGoesSpec))=true:=by kernel_rfl
theorem k2:(laidOutB Tryz.prog)=true:=by kernel_rfl
theorem k3:(mapsRowed Tryz.prog)=true:=by kernel_rfl
theorem k4:(Tryz.f5.params.all (Tryz.prog.readableRec ·))=true:=by kernel_rfl
theorem k5:(Go.namedTie Tryz.prog Rows.worksGoesRow.named Rows.worksGoesSpec.vars)=true:=by kernel_rfl
theorem k6:((Rows.worksGoesRow.stops== []))=true:=by kernel_rfl
theorem k7:((Tryz.prog.stops== []))=true:=by kernel_rfl
theorem k8:((Rows.worksGoesRow.knobs== []))=true:=by kernel_rfl
theorem k9:((Tryz.prog.stopKnobs== []))=true:=by kernel_rfl
theorem YJ:((Rows.worksGoesRow.inPlace==Tryz.prog.inPlace 5))=true:=by kernel_rfl
theorem k11:((Rows.worksGoesRow.unfollowed==Tryz.prog.unfollowed 5))=true:=by kernel_rfl
theorem k12:((Rows.worksGoesRow.recurses==Tryz.prog.recurses 5))=true:=by kernel_rfl
theorem k13:((Rows.worksGoesRow.named==Tryz.prog.varsNamed 5))=true:=by kernel_rfl
theorem k14:((Rows.worksGoesRow.maps==(Tryz.f5.params.toList++Rows.worksGoesSpec.plain.varTypes Tryz.prog).any (Tryz.prog.mapsRec ·)))=true:=by kernel_rfl
theorem k15:((Rows.worksGoesRow.ifaces==(Tryz.f5.params.toList++Rows.worksGoesSpec.plain.varTypes Tryz.prog).any (Tryz.prog.ifacesRec ·)))=true:=by kernel_rfl
theorem k16:((Rows.worksGoesRow.mapsOut==Tryz.prog.mapsAmong Tryz.f5.resultTypes.toList))=true:=by kernel_rfl
theorem k17:((Rows.worksGoesRow.loops==(Tryz.f5.params.toList++Rows.worksGoesSpec.plain.varTypes Tryz.prog).any (Tryz.prog.loopsFrom ·)))=true:=by kernel_rfl
theorem k18:((Rows.worksGoesRow.wideKeys==(Tryz.f5.params.toList++Rows.worksGoesSpec.plain.varTypes Tryz.prog++Tryz.f5.resultTypes.toList).any (Tryz.prog.wideKeysFrom ·)))=true:=by kernel_rfl
theorem k19:(Rows.worksGoesSpec.vars.all (Tryz.prog.varReadable ·))=true:=by kernel_rfl
theorem k20:(Tryz.f5.resultTypes.all (fun t=>Tryz.prog.readableRec t&&decide (t<Tryz.prog.types.size)))=true:=by kernel_rfl
theorem k21:((Rows.worksGoesRow.ifacesOut==Tryz.f5.resultTypes.toList.any (Tryz.prog.ifacesRec ·)))=true:=by kernel_rfl
theorem k22:((Rows.worksGoesRow.loopsOut==Tryz.f5.resultTypes.toList.any (Tryz.prog.loopsFrom ·)))=true:=by kernel_rfl
theorem k23:((Rows.worksGoesRow.plainKeys==Tryz.prog.plainKeys))=true:=by kernel_rfl
theorem k24:(Rows.worksGoesRow.shortTexts.isNone)=true:=by kernel_rfl
theorem k25:(Tryz.prog.stopsHeard)=true:=by kernel_rfl
theorem k26:(Tryz.prog.mayEnter)=true:=by kernel_rfl
theorem k27:((Rows.worksGoesRow.lifted==Tryz.prog.liftsFinal))=true:=by kernel_rfl
theorem k28:((Tryz.prog.make==some Rows.worksGoesRow.make))=true:=by kernel_rfl
theorem k29:((Rows.worksGoesRow.kinds==(if Rows.worksGoesRow.domain.isEmpty then [] else Tryz.f5.params.toList.map fun t=>match Tryz.prog.underlying t with | some (.int k)=>some k | _=>none)))=true:=by kernel_rfl
theorem k30:((Rows.worksGoesRow.pinned==Rows.worksGoesRow.pinnedBy))=true:=by kernel_rfl
theorem k31:((Rows.worksGoesRow.veiled==(Tryz.f5.params.toList++Rows.worksGoesSpec.plain.varTypes Tryz.prog++Tryz.f5.resultTypes.toList).any (Tryz.prog.veiledRec ·)))=true:=by kernel_rfl
theorem k32:(Rows.worksGoesRow.veiledFits Tryz.prog Tryz.f5.params.toList (Tryz.f5.params.toList++Rows.worksGoesSpec.plain.varTypes Tryz.prog++Tryz.f5.resultTypes.toList))=true:=by kernel_rfl
theorem both {a b:Bool} (h:a=true) (g:b=true):(a&&b)=true:=by rw[h,g];rfl
theorem closed:Go.joinedFacts Tryz.prog 5 Tryz.f5 Rows.worksGoesSpec Rows.worksGoesRow=true:=(both (both (both (both (both (both (both (both (both (both (both (both (both (both (both (both (both (both (both (both (both (both (both (both (both (both (both (both (both (both (both k1 k2) k3) k4) k5) k6) k7) k8) k9) YJ) k11) k12) k13) k14) k15) k16) k17) k18) k19) k20) k21) k22) k23) k24) k25) k26) k27) k28) k29) k30) k31) k32)
theorem ajG:Tryz.prog.funcNamed Rows.worksGoesRow.func=some 5:=by kernel_rfl
end
end Go.Proofs.YtijehnelcbdlgaaGreat
