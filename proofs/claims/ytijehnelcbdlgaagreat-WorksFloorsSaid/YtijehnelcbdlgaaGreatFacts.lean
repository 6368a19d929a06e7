import Derived.Test.YtijehnelcbdlgaaGreatRows
import Derived.ProofKit
namespace Go.Proofs.YtijehnelcbdlgaaGreat
section
set_option maxRecDepth 100000
theorem k1:(Rows.worksFloorsRow.wf (Go.OpenSpec.ofChange Rows.worksFloorsSpec))=true:=by kernel_rfl
theorem k2:(laidOutB Tryz.prog)=true:=by kernel_rfl
theorem k3:(mapsRowed Tryz.prog)=true:=by kernel_rfl
theorem k4:(Tryz.f3.params.all (Tryz.prog.readableRec ·))=true:=by kernel_rfl
theorem k5:(Go.namedTie Tryz.prog Rows.worksFloorsRow.named Rows.worksFloorsSpec.vars)=true:=by kernel_rfl
theorem k6:((Rows.worksFloorsRow.stops== []))=true:=by kernel_rfl
theorem k7:((Tryz.prog.stops== []))=true:=by kernel_rfl
theorem k8:((Rows.worksFloorsRow.knobs== []))=true:=by kernel_rfl
theorem k9:((Tryz.prog.stopKnobs== []))=true:=by kernel_rfl
theorem VJ:((Rows.worksFloorsRow.inPlace==Tryz.prog.inPlace 3))=true:=by kernel_rfl
theorem Ix:((Rows.worksFloorsRow.unfollowed==Tryz.prog.unfollowed 3))=true:=by kernel_rfl
theorem k12:((Rows.worksFloorsRow.recurses==Tryz.prog.recurses 3))=true:=by kernel_rfl
theorem Xu:((Rows.worksFloorsRow.named==Tryz.prog.varsNamed 3))=true:=by kernel_rfl
theorem k14:((Rows.worksFloorsRow.maps==(Tryz.f3.params.toList++Rows.worksFloorsSpec.plain.varTypes Tryz.prog).any (Tryz.prog.mapsRec ·)))=true:=by kernel_rfl
theorem Y8:((Rows.worksFloorsRow.ifaces==(Tryz.f3.params.toList++Rows.worksFloorsSpec.plain.varTypes Tryz.prog).any (Tryz.prog.ifacesRec ·)))=true:=by kernel_rfl
theorem k16:((Rows.worksFloorsRow.mapsOut==Tryz.prog.mapsAmong Tryz.f3.resultTypes.toList))=true:=by kernel_rfl
theorem k17:((Rows.worksFloorsRow.loops==(Tryz.f3.params.toList++Rows.worksFloorsSpec.plain.varTypes Tryz.prog).any (Tryz.prog.loopsFrom ·)))=true:=by kernel_rfl
theorem k18:((Rows.worksFloorsRow.wideKeys==(Tryz.f3.params.toList++Rows.worksFloorsSpec.plain.varTypes Tryz.prog++Tryz.f3.resultTypes.toList).any (Tryz.prog.wideKeysFrom ·)))=true:=by kernel_rfl
theorem k19:(Rows.worksFloorsSpec.vars.all (Tryz.prog.varReadable ·))=true:=by kernel_rfl
theorem k20:(Tryz.f3.resultTypes.all (fun t=>Tryz.prog.readableRec t&&decide (t<Tryz.prog.types.size)))=true:=by kernel_rfl
theorem k21:((Rows.worksFloorsRow.ifacesOut==Tryz.f3.resultTypes.toList.any (Tryz.prog.ifacesRec ·)))=true:=by kernel_rfl
theorem k22:((Rows.worksFloorsRow.loopsOut==Tryz.f3.resultTypes.toList.any (Tryz.prog.loopsFrom ·)))=true:=by kernel_rfl
theorem k23:((Rows.worksFloorsRow.plainKeys==Tryz.prog.plainKeys))=true:=by kernel_rfl
theorem k24:(Rows.worksFloorsRow.shortTexts.isNone)=true:=by kernel_rfl
theorem k25:(Tryz.prog.stopsHeard)=true:=by kernel_rfl
theorem k26:(Tryz.prog.mayEnter)=true:=by kernel_rfl
theorem k27:((Rows.worksFloorsRow.lifted==Tryz.prog.liftsFinal))=true:=by kernel_rfl
theorem k28:((Tryz.prog.make==some Rows.worksFloorsRow.make))=true:=by kernel_rfl
theorem k29:((Rows.worksFloorsRow.kinds==(if Rows.worksFloorsRow.domain.isEmpty then [] else Tryz.f3.params.toList.map fun t=>match Tryz.prog.underlying t with | some (.int k)=>some k | _=>none)))=true:=by kernel_rfl
theorem k30:((Rows.worksFloorsRow.pinned==Rows.worksFloorsRow.pinnedBy))=true:=by kernel_rfl
theorem k31:((Rows.worksFloorsRow.veiled==(Tryz.f3.params.toList++Rows.worksFloorsSpec.plain.varTypes Tryz.prog++Tryz.f3.resultTypes.toList).any (Tryz.prog.veiledRec ·)))=true:=by kernel_rfl
theorem k32:(Rows.worksFloorsRow.veiledFits Tryz.prog Tryz.f3.params.toList (Tryz.f3.params.toList++Rows.worksFloorsSpec.plain.varTypes Tryz.prog++Tryz.f3.resultTypes.toList))=true:=by kernel_rfl
theorem both {a b:Bool} (h:a=true) (g:b=true):(a&&b)=true:=by rw[h,g];rfl
theorem closed:Go.joinedFacts Tryz.prog 3 Tryz.f3 Rows.worksFloorsSpec Rows.worksFloorsRow=true:=(both (both (both (both (both (both (both (both (both (both (both (both (both (both (both (both (both (both (both (both (both (both (both (both (both (both (both (both (both (both (both k1 k2) k3) k4) k5) k6) k7) k8) k9) VJ) Ix) k12) Xu) k14) Y8) k16) k17) k18) k19) k20) k21) k22) k23) k24) k25) k26) k27) k28) k29) k30) k31) k32)
theorem Y9:Tryz.prog.funcNamed Rows.worksFloorsRow.func=some 3:=by kernel_rfl
end
end Go.Proofs.YtijehnelcbdlgaaGreat
