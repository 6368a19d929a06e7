import Derived.Test.YtijehnelcbdlgaaGreatLive1
import Derived.Test.YtijehnelcbdlgaaGreatLive2
import Derived.Test.YtijehnelcbdlgaaGreatLive3
import Derived.Test.YtijehnelcbdlgaaGreatLive4
import Derived.Test.YtijehnelcbdlgaaGreatEnv
namespace Go.Proofs.aM
open Go.Proofs Ab Fa
theorem ajF {e x:N8} (h:xg env e):x∈ [e]→xg env x:=fun m=>by cases m with
 | head=>exact h
 | tail _ m=>cases m
theorem MA {e:N8} (h:xj env [] 60 1000 e=true):xg env e:=xg.Q0 Ws (fun _ m=>by cases m) h
theorem ain {d e:N8} (hd:xg env d) (h:xj env [d] 60 1000 e=true):xg env e:=xg.Q0 Ws (fun _ m=>ajF hd m) h
noncomputable def known:List N8:=[aim,Wt,abt,Wv,Wx,Wy]
theorem abv:∀e∈known,xg env e:=fun e h=>by
 simp only[known,List.mem_cons,List.not_mem_nil,or_false] at h
 rcases h with rfl | rfl | rfl | rfl | rfl | rfl
 · exact MA af5
 · exact MA YB
 · exact MA abu
 · exact ain (MA YC) YD
 · exact ain (MA YE) YF
 · exact MA YG
noncomputable def abw (o:A6):Bool:=match o with
 | .ret (.bool b) _=>b
 | _=>false
theorem YH {o:A6} (h:abw o=true):∃h',o= .ret (.bool true) h':=by
 cases o with
 | ret v h'=>cases v with
  | bool b=>exact ⟨h',by rw[show b=true from h]⟩
  | _=>cases h
 | panic v h'=>cases h
 | fail _ _=>cases h
set_option maxRecDepth 100000 in
theorem runs:abw (xh env (Gj known) 1000 60 (.fn 7) [] (qA 0 []))=true:=by kernel_rfl
theorem YI:∃h',kR env 7 [] (qA 0 []) (.bool true) h':=by
 obtain ⟨h',e⟩:=YH runs
 exact ⟨h',Mo Ws (IH abv) e⟩
theorem anA:Fa.yx env M0:=fun f args h v h' e=>by
 rcases Mz e with ⟨h1,h2⟩ | ⟨_,h2⟩
 · obtain rfl:=Nat.eq_of_beq_eq_true h1
   cases args with
   | nil=>
    cases h2
    obtain ⟨h1,r⟩:=YI
    exact kR.closed (E:=env) r rfl rfl h
   | cons a l=>cases h2
 · rcases Mz h2 with ⟨h1,h2⟩ | ⟨_,h2⟩
   · obtain rfl:=Nat.eq_of_beq_eq_true h1
     exact abo (E:=env) Yy af3 args h v h' h2
   · cases h2
end Go.Proofs.aM
