import Derived.Test.YtkkpegaeikljmaaGreatDoorEnv
namespace Go.Proofs.aF
open Go.Proofs Ab
noncomputable def Jn (f:FuncId):Option (List AV→ah→Option (AV×ah)):=bif ahT [12,16,19,21,23,24,30,48,49,56,60,75,80,102,103,105,109,110,120,144,145,151,160] f then some (fun a h=>ahU h (TG Bx f a)) else Ay f
noncomputable def RI:Env:={P:=Tryz.prog,G:=8,uq:=Yw,pf:=Jn}
theorem OR.sp {E:Env} {s:FuncId→Option (List AV→ah→Option (AV×ah))} {φ:Ph} {o:ar} {l:Ab.Loc} {x:Option Obj} (h:OR E φ o l x):OR ⟨E.P,E.G,E.uq,s⟩ φ o l x:=by
 cases o with
 | cells cs e ro=>
   obtain ⟨C,e',lo,hi,hx,hc⟩:=h
   exact ⟨C,e',lo,hi,hx,⟨hc.size,hc.val,hc.free,hc.zero⟩⟩
 | loop st jE ts ps a_ bd dn=>
   obtain ⟨h0,r,hx,hl⟩:=h
   exact ⟨h0,r,hx,⟨hl.state,hl.pending,hl.tmps,hl.params,hl.assign,hl.body,hl.defers,hl.fn⟩⟩
 | DH m a b c=>cases m<;>exact h
 | _=>exact h
theorem OK.sp {E:Env} {s:FuncId→Option (List AV→ah→Option (AV×ah))} {φ:Ph} {h:ah} {w:World} (k:OK E φ h w):OK ⟨E.P,E.G,E.uq,s⟩ φ h w:=⟨k.ED,k.nx,k.Aa,fun i o l a b=>OR.sp (k.live i o l a b),k.inj⟩
theorem OK.toL {φ:Ph} {h:ah} {w:World} (k:OK env φ h w):OK RI φ h w:=OK.sp (E:=env) (s:=Jn) k
theorem OK.ofL {φ:Ph} {h:ah} {w:World} (k:OK RI φ h w):OK env φ h w:=OK.sp (E:=RI) (s:=Ay) k
theorem TI {f:FuncId} {a:List AV} {h h':ah} {v:AV} (r:iN env f a h v h'):iN RI f a h v h':=fun φ w vs ok hl=>by
 obtain ⟨h1,h2⟩:=r φ w vs (OK.ofL ok) hl
 refine ⟨h1,fun cs=>?_⟩
 obtain ⟨p,q,s,t,a1,a2,a3⟩:=h2 cs
 exact ⟨p,q,s,t,a1,OK.toL a2,a3⟩
theorem acE {f:FuncId} {a:List AV} {h h':ah} {v:AV} (r:iN RI f a h v h'):iN env f a h v h':=fun φ w vs ok hl=>by
 obtain ⟨h1,h2⟩:=r φ w vs (OK.toL ok) hl
 refine ⟨h1,fun cs=>?_⟩
 obtain ⟨p,q,s,t,a1,a2,a3⟩:=h2 cs
 exact ⟨p,q,s,t,a1,OK.ofL a2,a3⟩
theorem Yy:jZ RI where
 ext:=fun f e h=>Gq.ext f e h
 pf:=fun f g h=>by
  rcases jQ h with ⟨h1,h2⟩ | ⟨_,h2⟩
  · obtain rfl:=Option.some.inj h2
    intro args h v h' e
    simp only[ahU] at e
    split at e
    · rename_i u hu
      simp only[Option.some.injEq,Prod.mk.injEq] at e
      obtain ⟨rfl,rfl⟩:=e
      have hg:=List.all_eq_true.1 acD _ (Jm hu)
      simp only[EN,Bool.and_eq_true] at hg
      obtain ⟨g1,g2,g3⟩:=hg
      obtain ⟨h',e'⟩:=TH g1
      exact TI (iN.closed (E:=env) ((F1 Gq 1000000 59 (wA Gq 1000000 59)).1 f args (j7 8 []) u h' e') g2 g3 h)
    · cases e
  · intro args h v h' e
    exact TI (Gq.pf f g h2 args h v h' e)
 names:=Gq.names
 mixed:=Gq.mixed
set_option maxRecDepth 100000 in
theorem runs:ends (.bool true) (jF RI 60 1000000 (.fn 4) [] (j7 8 []))=true:=by kernel_rfl
theorem VC:∃h',iN env 4 [] (j7 8 []) (.bool true) h':=by
 obtain ⟨h',e⟩:=TH runs
 exact ⟨h',acE ((F1 Yy 1000000 59 (wA Yy 1000000 59)).1 4 [] (j7 8 []) (.bool true) h' e)⟩
theorem ahZ:Fa.Kz env M0:=fun f args h v h' e=>by
 rcases jQ e with ⟨h1,h2⟩ | ⟨_,h2⟩
 · obtain rfl:=Nat.eq_of_beq_eq_true h1
   cases args with
   | nil=>
     cases h2
     obtain ⟨h1,r⟩:=VC
     exact iN.closed (E:=env) r rfl rfl h
   | cons a l=>cases h2
 · cases h2
end Go.Proofs.aF
