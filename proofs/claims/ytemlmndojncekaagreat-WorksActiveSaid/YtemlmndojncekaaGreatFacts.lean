import Derived.Test.YtemlmndojncekaaGreatRows
import Derived.ProofKit
namespace Go.Proofs.YtemlmndojncekaaGreat
section
set_option maxRecDepth 100000
theorem k1:(Rows.worksActiveRow.wf (Go.OpenSpec.ofChange Rows.worksActiveSpec))=true:=by kernel_rfl
theorem k2:(laidOutB Tryz.prog)=true:=by kernel_rfl
theorem k3:(mapsRowed Tryz.prog)=true:=by kernel_rfl
theorem k4:(Tryz.f3.params.all (Tryz.prog.readableRec ·))=true:=by kernel_rfl
theorem k5:(Go.namedTie Tryz.prog Rows.worksActiveRow.named Rows.worksActiveSpec.vars)=true:=by kernel_rfl
theorem k6:((Rows.worksActiveRow.stops== []))=true:=by kernel_rfl
theorem k7:((Tryz.prog.stops== []))=true:=by kernel_rfl
theorem k8:((Rows.worksActiveRow.knobs== []))=true:=by kernel_rfl
theorem k9:((Tryz.prog.stopKnobs== []))=true:=by kernel_rfl
theorem YU:((Rows.worksActiveRow.inPlace==Tryz.prog.inPlace 3))=true:=by kernel_rfl
theorem k11:((Rows.worksActiveRow.unfollowed==Tryz.prog.unfollowed 3))=true:=by kernel_rfl
theorem k12:((Rows.worksActiveRow.recurses==Tryz.prog.recurses 3))=true:=by kernel_rfl
theorem k13:((Rows.worksActiveRow.named==Tryz.prog.varsNamed 3))=true:=by kernel_rfl
theorem k14:((Rows.worksActiveRow.maps==(Tryz.f3.params.toList++Rows.worksActiveSpec.plain.varTypes Tryz.prog).any (Tryz.prog.mapsRec ·)))=true:=by kernel_rfl
theorem k15:((Rows.worksActiveRow.ifaces==(Tryz.f3.params.toList++Rows.worksActiveSpec.plain.varTypes Tryz.prog).any (Tryz.prog.ifacesRec ·)))=true:=by kernel_rfl
theorem k16:((Rows.worksActiveRow.mapsOut==Tryz.prog.mapsAmong Tryz.f3.resultTypes.toList))=true:=by kernel_rfl
theorem k17:((Rows.worksActiveRow.loops==(Tryz.f3.params.toList++Rows.worksActiveSpec.plain.varTypes Tryz.prog).any (Tryz.prog.loopsFrom ·)))=true:=by kernel_rfl
theorem k18:((Rows.worksActiveRow.wideKeys==(Tryz.f3.params.toList++Rows.worksActiveSpec.plain.varTypes Tryz.prog++Tryz.f3.resultTypes.toList).any (Tryz.prog.wideKeysFrom ·)))=true:=by kernel_rfl
theorem k19:(Rows.worksActiveSpec.vars.all (Tryz.prog.varReadable ·))=true:=by kernel_rfl
theorem k20:(Tryz.f3.resultTypes.all (fun t=>Tryz.prog.readableRec t&&decide (t<Tryz.prog.types.size)))=true:=by kernel_rfl
theorem k21:((Rows.worksActiveRow.ifacesOut==Tryz.f3.resultTypes.toList.any (Tryz.prog.ifacesRec ·)))=true:=by kernel_rfl
theorem k22:((Rows.worksActiveRow.loopsOut==Tryz.f3.resultTypes.toList.any (Tryz.prog.loopsFrom ·)))=true:=by kernel_rfl
theorem k23:((Rows.worksActiveRow.plainKeys==Tryz.prog.plainKeys))=true:=by kernel_rfl
theorem k24:(Rows.worksActiveRow.shortTexts.isNone)=true:=by kernel_rfl
theorem k25:(Tryz.prog.stopsHeard)=true:=by kernel_rfl
theorem k26:(Tryz.prog.mayEnter)=true:=by kernel_rfl
theorem k27:((Rows.worksActiveRow.lifted==Tryz.prog.liftsFinal))=true:=by kernel_rfl
theorem k28:((Tryz.prog.make==some Rows.worksActiveRow.make))=true:=by kernel_rfl
theorem k29:((Rows.worksActiveRow.kinds==(if Rows.worksActiveRow.domain.isEmpty then [] else Tryz.f3.params.toList.map fun t=>match Tryz.prog.underlying t with | some (.int k)=>some k | _=>none)))=true:=by kernel_rfl
theorem k30:((Rows.worksActiveRow.pinned==Rows.worksActiveRow.pinnedBy))=true:=by kernel_rfl
theorem k31:((Rows.worksActiveRow.veiled==(Tryz.f3.params.toList++Rows.worksActiveSpec.plain.varTypes Tryz.prog++Tryz.f3.resultTypes.toList).any (Tryz.prog.veiledRec ·)))=true:=by kernel_rfl
theorem k32:(Rows.worksActiveRow.veiledFits Tryz.prog Tryz.f3.params.toList (Tryz.f3.params.toList++Rows.worksActiveSpec.plain.varTypes Tryz.prog++Tryz.f3.resultTypes.toList))=true:=by kernel_rfl
theorem both {a b:Bool} (h:a=true) (g:b=true):(a&&b)=true:=by rw[h,g];rfl
theorem closed:Go.joinedFacts Tryz.prog 3 Tryz.f3 Rows.worksActiveSpec Rows.worksActiveRow=true:=(both (both (both (both (both (both (both (both (both (both (both (both (both (both (both (both (both (both (both (both (both (both (both (both (both (both (both (both (both (both (both k1 k2) k3) k4) k5) k6) k7) k8) k9) YU) k11) k12) k13) k14) k15) k16) k17) k18) k19) k20) k21) k22) k23) k24) k25) k26) k27) k28) k29) k30) k31) k32)
theorem agf:Tryz.prog.funcNamed Rows.worksActiveRow.func=some 3:=by kernel_rfl
end
end Go.Proofs.YtemlmndojncekaaGreat
