import Derived.Test.YtkkpegaeikljmaaGreatDoorA6
import Derived.Test.YtkkpegaeikljmaaGreatDoorW0
import Derived.Test.YtkkpegaeikljmaaGreatDoorEnv
import Derived.Test.YtkkpegaeikljmaaGreatDoorW15
import Derived.Test.YtkkpegaeikljmaaGreatDoorW7
import Derived.Test.YtkkpegaeikljmaaGreatDoorW2
import Derived.Test.YtkkpegaeikljmaaGreatDoorW8
import Derived.Test.YtkkpegaeikljmaaGreatDoorW14
namespace Go.Proofs.aF
open Go.Proofs Ab
set_option maxRecDepth 100000
set_option maxHeartbeats 4000000
set_option linter.unusedVariables false
set_option linter.unusedSimpArgs false
noncomputable def gK:Code:=(Tryz.f135.body).getD .skip
theorem vm:Tryz.f135.body=some gK:=by kernel_rfl
noncomputable def jM:Code:=(aY gK).getD 0 .skip
noncomputable def rC:Code:=(aY gK).getD 1 .skip
def FrZ (z:AV) (h h':ah):Prop:=∀i x,mj i z→h.get i=some x→h'.get i=some x
theorem FrZ.S6 {z:AV} {h h':ah} (a:Has h h'):FrZ z h h':=fun i x _ g=>a i x g
theorem iY.off {e:TypeId} {hb h:ah} {z:AV} {L:List AV} (o:iY e hb h z L) {i:Nat} (hi:i<hb.nx):mj i z:=by
 rcases o with ⟨rfl,_⟩ | ⟨_,p,op,rfl,hp,_⟩
 · intro _ _ _ _ e;cases e
 · intro _ _ _ _ e;cases e;omega
theorem FrZ.has {e:TypeId} {hb h h':ah} {z:AV} {L:List AV} (f:FrZ z h h') (o:iY e hb h z L) (a:Has hb h) (yb:Tidy hb):Has hb h':=fun i x g=>f i x (o.off (yb _ _ g)) (a i x g)
theorem iY.up {e:TypeId} {h0 h1 h:ah} {z:AV} {L:List AV} (o:iY e h1 h z L) (hle:h0.nx≤h1.nx):iY e h0 h z L:=o.imp id fun ⟨hn,p,op,e,hp,g⟩=>⟨hn,p,op,e,Nat.le_trans hle hp,g⟩
theorem mj.slice {i p o n c:Nat} {b:Bool} (h:i≠p):mj i (.slice p o n c b):=fun _ _ _ _ e=>by cases e;exact h rfl
def J3 (z av:AV):Prop:=∀p o n c b,z= .slice p o n c b→mj p av
theorem ao.frz {h h':ah} {k:IntKind} {e:TypeId} {z av:AV} {l:List Nat} (x:ao env h k e av l) (f:FrZ z h h') (ho:J3 z av):ao env h' k e av l:=by
 by_cases q:∃p o n c b,z= .slice p o n c b
 · obtain ⟨p,o,n,c,b,rfl⟩:=q
   exact x.kept (fun i y hi g=>f i y (mj.slice hi) g) (ho _ _ _ _ _ rfl)
 · exact x.has fun i y g=>f i y (fun o n c b e=>q ⟨_,_,_,_,_,e⟩) g
theorem iY.adH {e s xt:TypeId} {xd:TypeDesc} {hb h:ah} {tys:Array TypeId} {bytes:Nat} {z0 z x:AV} {L M:List AV} (y:Tidy h) (o:iY e hb h z L) (t0:tys[0]? =some s) (t1:tys[1]? =some xt) (hs:env.P.underlying s=some (.slice e)) (hx:env.P.underlying xt=some xd) (hi:pZ xd=false) (Ij:bK env e=some 1) (hby:mr env e=some bytes) (Jd:jW env e=some z0) (hz:z0.cells.length=1) (h8:bytes≤63) (hlen:rI x=some M.length) (hf:iq h 1 M.length x=some M) (Ti:M.all AV.scalar=true) (hm:M≠ []) (hl:L.length+M.length≤1073741824):
 ∃z' h',dI env h tys z x=some (z',h')∧Tidy h'∧h.nx≤h'.nx∧FrZ z h h'∧iY e h h' z' (L++M):=by
 rcases o with ⟨rfl,rfl⟩ | ⟨hn,p,op,rfl,hp,hg⟩
 · obtain ⟨h',e1,n⟩:=Ez (h:=h) t0 t1 hs hx hi Ij hby Jd hz h8 hlen hf Ti hm (by simpa using hl)
   have:=cW n
   exact ⟨_,h',e1,bI y n,by omega,.S6 (bu y n),.inr ⟨by simpa using hm,h.nx,true,by simp,Nat.le_refl _,bU n⟩⟩
 · obtain ⟨h',e1,y1,z1,k1,g1⟩:=EA (op:=op) y t0 t1 hs hx hi Ij hby Jd hz h8 hlen hf Ti rfl hm hl hg
   exact ⟨_,h',e1,y1,by omega,fun i x Mz g=>k1 i x (fun e=>Mz 0 L.length L.length op (by rw[e])) g,.inr ⟨by simp [hn],h.nx,true,by rw[List.length_append],Nat.le_refl _,g1⟩⟩
structure App (hb h hk:ah) (z z':AV) (txt new:List Nat):Prop where
 y:Tidy hk
 n:h.nx≤hk.nx
 f:FrZ z h hk
 o:iY 5 hb hk z' (aA .u8 (txt++new))
 c:(new=[]∧z'=z∧Has h hk)∨iY 5 h hk z' (aA .u8 (txt++new))
theorem App.nil {hb h:ah} {z:AV} {txt:List Nat} (y:Tidy h) (o:iY 5 hb h z (aA .u8 txt)):App hb h h z z txt []:=⟨y,Nat.le_refl _,.S6 (Has.refl _),by rw[List.append_nil];exact o,.inl ⟨rfl,rfl,Has.refl _⟩⟩
theorem App.trans {hb h h1 h2:ah} {z z1 z2:AV} {txt n1 n2:List Nat} (y:Tidy h) (a:App hb h h1 z z1 txt n1) (b:App hb h1 h2 z1 z2 (txt++n1) n2):App hb h h2 z z2 txt (n1++n2):=by
 refine ⟨b.y,Nat.le_trans a.n b.n,fun i x Mz g=>b.f i x ?_ (a.f i x Mz g),by rw[←List.append_assoc];exact b.o,?_⟩
 · rcases a.c with ⟨_,e,_⟩ | o
   · rw[e];exact Mz
   · exact o.off (y _ _ g)
 · rcases b.c with ⟨e2,z2e,h2⟩ | o2
   · rcases a.c with ⟨e1,z1e,h1⟩ | o1
     · exact .inl ⟨by rw[e1,e2];rfl,by rw[z2e,z1e],h1.trans h2⟩
     · right
       rw[z2e,e2,List.append_nil]
       exact o1.has h2
   · right
     rw[←List.append_assoc]
     exact o2.up a.n
theorem App.UM {hb h h1 h2:ah} {z z':AV} {txt new:List Nat} (a:Has h h1) (n:h.nx≤h1.nx) (b:App hb h1 h2 z z' txt new):App hb h h2 z z' txt new:=
 ⟨b.y,Nat.le_trans n b.n,fun i x o g=>b.f i x o (a i x g),b.o,b.c.imp (fun ⟨e1,e2,e3⟩=>⟨e1,e2,a.trans e3⟩) fun o=>o.up n⟩
theorem App.has {hb h hk:ah} {z z':AV} {txt new:List Nat} (b:App hb h hk z z' txt new) (a:Has hb h) (yb:Tidy hb) (o:iY 5 hb h z (aA .u8 txt)):Has hb hk:=b.f.has o a yb
theorem App.one {hb h h':ah} {z z':AV} {txt new:List Nat} (y:Tidy h') (n:h.nx≤h'.nx) (hle:hb.nx≤h.nx) (f:FrZ z h h') (o:iY 5 h h' z' (aA .u8 (txt++new))):App hb h h' z z' txt new:=⟨y,n,f,o.up hle,.inr o⟩
theorem App.call {d:Nat} {f:FuncId} {args:List AV} {hb h h':ah} {z z':AV} {txt new:List Nat} (hm:M0 f args h=none) (hd:mz env (aQ d) f args h z' h') (y:Tidy h) (o:iY 5 hb h z (aA .u8 txt)) (b:App hb h h' z z' txt new):
 ∃hk,aQ (d+1) (.fn f) args h= .ret z' hk∧App hb h hk z z' txt new:=by
 by_cases hv:Has h h'∧AV.within h.nx 20 z'=true
 · refine ⟨h,ai hm hd hv.1 hv.2,y,Nat.le_refl _,.S6 (Has.refl _),?_,?_⟩
   · rcases b.c with ⟨e,ez,_⟩ | o1
     · rw[e,ez,List.append_nil];exact o
     · rcases o1 with ⟨e1,e2⟩ | ⟨_,p,op,e1,hp,_⟩
       · exact .inl ⟨e1,e2⟩
       · rw[e1] at hv
         have:=of_decide_eq_true (show decide (p<h.nx)=true from hv.2)
         omega
   · rcases b.c with ⟨e,ez,_⟩ | o1
     · exact .inl ⟨e,ez,Has.refl _⟩
     · rcases o1 with ⟨e1,e2⟩ | ⟨_,p,op,e1,hp,_⟩
       · exact .inr (.inl ⟨e1,e2⟩)
       · rw[e1] at hv
         have:=of_decide_eq_true (show decide (p<h.nx)=true from hv.2)
         omega
 · exact ⟨h',fa hm hd hv,b⟩
theorem UN:∀{l:List Nat},(∀x∈l,x<256)→cL (vv l)=l
 | [],_=>rfl
 | a::l,h=>by
  rw[vv,cL,List.map_cons,List.map_cons]
  have ih:=UN (l:=l) fun x hx=>h x (List.mem_cons_of_mem _ hx)
  rw[vv,cL] at ih
  rw[ih]
  congr 1
  have:=h a (List.mem_cons_self ..)
  simp [UInt8.toNat_ofNat,Nat.mod_eq_of_lt this]
theorem sE (w:Nat):cL (bf w)=dW w (eg w):=UN (Pp _ _)
theorem Cv (w:Nat):1≤eg w:=by
 by_cases h:w=0
 · rw[h,jK (by decide)];decide
 · exact (eM w h).1
theorem abt {w:Nat} (h:1≤eg w):aA .u8 (cL (bf w))≠ []:=fun e=>by
 have:=congrArg List.length e
 rw[aM,sE,fF] at this
 simp at this;omega
theorem LO {w n:Nat} (hn:1≤n) (h:w<10^n):eg w≤n:=by
 by_cases q:w=0
 · rw[q,jK (by decide)];exact hn
 · obtain ⟨_,h2,_⟩:=eM w q
   have:=(Nat.pow_lt_pow_iff_right (by decide:1<10)).1 (Nat.lt_of_le_of_lt h2 h)
   omega
theorem UO (w:Nat):w<10^eg w:=by
 by_cases q:w=0
 · rw[q];exact Nat.pow_pos (by decide)
 · exact (eM w q).2.2
theorem abu:∀{m w:Nat} (k:Nat),w<10^m→dW w (k+m)=List.replicate k 48++dW w m
 | 0,w,k,h=>by
  have:w=0:=by simpa using h
  subst this
  induction k with
  | zero=>rfl
  | succ k ih=>
   rw[List.replicate_succ',show dW 0 (k+1+0)=dW 0 (k+0)++[48] from rfl,ih]
   simp [dW]
 | m+1,w,k,h=>by
  rw[show k+(m+1)=(k+m)+1 by omega,dW,dW,abu k (show w/10<10^m by rw[Nat.div_lt_iff_lt_mul (by decide)];rwa [Nat.pow_succ] at h),List.append_assoc]
def mn (txt:List Nat) (v n:Nat):List Nat:=if txt=[] then (if v=0 then [] else dW v (eg v)) else dW v n
theorem oU {d:Nat} {h:ah} {z x:AV} {v:Nat} (hv:v<18446744073709551616) (nx0:ao env h .u64 54 x (aq v)) (x_:Nat→AV):
 ∃y:Nat→AV,Ev env (aQ (d+5)) (.loop jM) ⟨(z::x::rx x_ 2 3 ((aa 0)::rx x_ 6 3 (x::(ag ((aq v).length))::(af 0)::rx x_ 12 25 []))),h,[],.no⟩ (.exit 0) ⟨(z::x::rx y 2 3 ((ae v)::rx y 6 31 [])),h,[],.no⟩:=by
 obtain ⟨l,hl⟩:∃l,l=aq v:=⟨_,rfl⟩
 rw[←hl] at nx0 ⊢
 have nx:=nx0
 have h1:l.length≤1:=by rw[hl];exact gZ (by simpa using hv)
 have last:∀(w:Nat),w=v→∀k,k=l.length→∀x_:Nat→AV,∃y:Nat→AV,Ev env (aQ (d+5)) (.loop jM) ⟨(z::x::rx x_ 2 3 ((ae w)::rx x_ 6 3 (x::(ag l.length)::(ag k)::rx x_ 12 25 []))),h,[],.no⟩ (.exit 0) ⟨(z::x::rx y 2 3 ((ae v)::rx y 6 31 [])),h,[],.no⟩:=by
  rintro w rfl k hk x_
  have q1:=cI ((k:Int)<((l.length:Nat):Int))
  have ev:=pk (d+5) jM (z::x::rx x_ 2 3 ((ae w)::rx x_ 6 3 (x::(ag l.length)::(ag k)::rx x_ 12 25 []))) h (.exit 0) h (VV (bh 3 false false .i64 (k:Int) ((l.length:Nat):Int))<|BB q1<|ZZ) k!
  exact cT (Ev.out ev) k!
 by_cases q:v=0
 · have e:l.length=0:=by rw[hl,q,cO];rfl
   exact last 0 q.symm 0 e.symm x_
 · have e:l=[v]:=by rw[hl];exact eK q hv
   have e1:l.length=1:=by rw[e];rfl
   have e2:l.getD 0 0=v:=by rw[e];rfl
   obtain ⟨k,XF⟩:∃k,k=0:=⟨_,rfl⟩
   obtain ⟨w,hw0⟩:∃w,w=0:=⟨_,rfl⟩
   have hg:∃y:Nat→AV,Ev env (aQ (d+5)) (.loop jM) ⟨(z::x::rx x_ 2 3 ((ae w)::rx x_ 6 3 (x::(ag l.length)::(ag k)::rx x_ 12 25 []))),h,[],.no⟩ (.exit 0) ⟨(z::x::rx y 2 3 ((ae v)::rx y 6 31 [])),h,[],.no⟩:=by
    have q1:=dg ((k:Int)<((l.length:Nat):Int))
    obtain ⟨p2,q3,yX,vp⟩:=nx.j8 (k:Int) (show k<l.length by omega)
    have u6:=fX 3 false true k 1 o!
    have ev:=pk (d+5) jM (z::x::rx x_ 2 3 ((ae w)::rx x_ 6 3 (x::(ag l.length)::(ag k)::rx x_ 12 25 []))) h .normal h (VV (bh 3 false false .i64 (k:Int) ((l.length:Nat):Int))<|BB q1<|VV yX<|MM vp<|CN 3<|VV u6<|CC<|ZZ) k!
    exact bO (tin:=fun x_=>(z::x::rx x_ 2 3 ((ae (l.getD k 0))::rx x_ 6 3 (x::(ag l.length)::(ag (k+1))::rx x_ 12 25 [])))) ev k! fun x_=>last _ (by rw[XF];exact e2) (k+1) o! x_
   subst XF hw0
   exact hg
theorem H0 (k:IntKind) (a b:List Nat):aA k (a++b)=aA k a++aA k b:=List.map_append
theorem ud {d:Nat} {hb:ah} {w R:Nat}:∀(r j:Nat) (h:ah) (z:AV) (txt:List Nat),j+r=R→R<1000→txt.length+r≤1000000000→iY 5 hb h z (aA .u8 txt)→Tidy h→hb.nx≤h.nx→∀x_:Nat→AV,
 ∃(z2:AV) (h2:ah),(∃y:Nat→AV,Ev env (aQ (d+5)) (.loop rC) ⟨(z::rx x_ 1 7 ((AV.str (bf w))::rx x_ 9 15 ((ag R)::(ag j)::rx x_ 26 11 []))),h,[],.no⟩ (.exit 2) ⟨(z2::rx y 1 7 ((AV.str (bf w))::rx y 9 28 [])),h2,[],.no⟩)∧App hb h h2 z z2 txt (List.replicate r 48)
 | 0,j,h,z,txt,hj,hR,hl,oz,aw,hle,x_=>by
  have q1:=cI ((j:Int)<(R:Int))
  have ev:=pk (d+5) rC (z::rx x_ 1 7 ((AV.str (bf w))::rx x_ 9 15 ((ag R)::(ag j)::rx x_ 26 11 []))) h (.exit 2) h (VV (bh 3 false false .i64 (j:Int) (R:Int))<|BB q1<|ZZ) k!
  exact ⟨z,h,cT (Ev.out ev) k!,App.nil aw oz⟩
 | r+1,j,h,z,txt,hj,hR,hl,oz,aw,hle,x_=>by
  have q1:=dg ((j:Int)<(R:Int))
  obtain ⟨h2,bD,bP,iA,bB,b8⟩:=de aw (ar.cells [(bj 48)] 5 false)
  have b7:Has h h2:=b8
  obtain ⟨z4,h3,GD,bt,uL,abv,abw⟩:=iY.adH (xd:= .slice 5) bP (oz.has b7) (tys:= #[97,97]) rfl rfl k! k! rfl k! (bytes:=1) k! (z0:=AV.int .u8 0) k! rfl (by decide) (M:=aA .u8 [48]) (LM (b:=false)) (DC bB) rfl (by simp [aA]) (by simp only[aM];simp;omega)
  have u5:=fX 3 false true j 1 o!
  have ev:=pk (d+5) rC (z::rx x_ 1 7 ((AV.str (bf w))::rx x_ 9 15 ((ag R)::(ag j)::rx x_ 26 11 []))) h .normal h3 (VV (bh 3 false false .i64 (j:Int) (R:Int))<|BB q1<|CC<|NN bD (fun i=>(AV.slice i 0 1 1 false))<|PP GD<|CC<|VV u5<|CC<|ZZ) k!
  have A:App hb h h3 z z4 txt [48]:=App.UM b7 o! (App.one bt uL o! abv (by rw[H0];exact abw))
  obtain ⟨z2,h2,hy,A2⟩:=bp (Q:=fun z2 h2=>App hb h3 h2 z4 z2 (txt++[48]) (List.replicate r 48)) (tin:=fun x_=>(z4::rx x_ 1 7 ((AV.str (bf w))::rx x_ 9 15 ((ag R)::(ag (j+1))::rx x_ 26 11 [])))) (tout:=fun z2 y=>(z2::rx y 1 7 ((AV.str (bf w))::rx y 9 28 []))) ev k! fun x_=>ud r (j+1) h3 z4 (txt++[48]) o! hR (by simp;omega) A.o bt o! x_
  exact ⟨z2,h2,hy,A.trans aw A2⟩
theorem LP {d:Nat} {hb h:ah} {z x:AV} {txt:List Nat} {w:Nat} {f:TypeId} {ro:Bool} (hle:hb.nx≤h.nx) (nx:ao env h .u64 54 x (aq w)) (hw:w<10000000000000000000) (oz:iY 5 hb h z (aA .u8 txt)) (htl:txt.length≤500000000) (hG:h.get 1=some (.cells (aA .u64 pb) f ro)) (aw:Tidy h):
 ∃z' hk,aQ (d+6) (.fn 135) [z,x] h= .ret z' hk∧App hb h hk z z' txt (mn txt w 19):=by
 have WA:w<18446744073709551616:=by omega
 have nz:=oz.aA o! k! k!
 have cR:=Cv w
 have Fo:=LO (w:=w) (n:=19) (by decide) hw
 have hdl:(bf w).length=eg w:=by rw[←fM,sE,fF]
 by_cases q:txt=[]
 · have q1:txt.length=0:=by rw[q];rfl
   by_cases q0:w=0
   · have e:mn txt w 19=[]:=by rw[mn,if_pos q,if_pos q0]
     rw[e]
     obtain ⟨ya,Cu⟩:=oU (d:=d) (h:=h) (z:=z) WA nx (fun k_=>((z::x::aB::aB::bE::(aa 0)::aB::aB::aB::x::(ag ((aq w).length))::(af 0)::aV 25):List AV).getD k_ aB)
     have kF:=pK (d:=d) (h:=h) (u:=w) WA hG aw
     have q1:=cI (0<((txt.length:Nat):Int))
     have q2:=dg ((w:Int)=0)
     have ev:=pk (d+5) gK (z::x::aV 35) h .ret h (CN 3<|VV (nx).len<|CC<|LL Cu<|CC<|EE kF<|CN 2<|VV (nz).len<|VV (bM 3 false true .i64 ((txt.length:Nat):Int) 0)<|BB q1<|CC<|VV (bQ 54 false true .u64 (w:Int) 0)<|BB q2<|CN 2<|ZZ) k!
     exact ⟨_,App.call rfl (az Tryz.func135 vm k! (.inr rfl) ev k!) aw oz (App.nil aw oz)⟩
   · have e:mn txt w 19=cL (bf w):=by rw[mn,if_pos q,if_neg q0,sE]
     rw[e]
     obtain ⟨ya,Cu⟩:=oU (d:=d) (h:=h) (z:=z) WA nx (fun k_=>((z::x::aB::aB::bE::(aa 0)::aB::aB::aB::x::(ag ((aq w).length))::(af 0)::aV 25):List AV).getD k_ aB)
     have kF:=pK (d:=d) (h:=h) (u:=w) WA hG aw
     have q1:=cI (0<((txt.length:Nat):Int))
     have q2:=cI ((w:Int)=0)
     obtain ⟨z4,h3,GD,bt,uL,abv,abw⟩:=iY.adH (xd:= .string) aw (oz) (tys:= #[97,9]) rfl rfl k! k! rfl k! (bytes:=1) k! (z0:=AV.int .u8 0) k! rfl (by decide) (M:=aA .u8 (cL (bf w))) (UK _) (J1 _) (jG _ _) (abt cR) (by rw[aM,aM,fM];first | omega | (rw[List.length_append,List.length_replicate];omega))
     have ev:=pk (d+5) gK (z::x::aV 35) h .ret h3 (CN 3<|VV (nx).len<|CC<|LL Cu<|CC<|EE kF<|CN 2<|VV (nz).len<|VV (bM 3 false true .i64 ((txt.length:Nat):Int) 0)<|BB q1<|CC<|VV (bQ 54 false true .u64 (w:Int) 0)<|BB q2<|CN 2<|PP GD<|CC<|ZZ) k!
     exact ⟨_,App.call rfl (az Tryz.func135 vm k! (.inr rfl) ev k!) aw oz (App.one bt uL hle abv (by rw[H0];exact abw))⟩
 · have q1:0<txt.length:=List.length_pos_iff.2 q
   have e:mn txt w 19=List.replicate (19 -(bf w).length) 48++cL (bf w):=by
    rw[mn,if_neg q,sE,hdl,←abu _ (UO w)]
    congr 1;omega
   rw[e]
   obtain ⟨ya,Cu⟩:=oU (d:=d) (h:=h) (z:=z) WA nx (fun k_=>((z::x::aB::aB::bE::(aa 0)::aB::aB::aB::x::(ag ((aq w).length))::(af 0)::aV 25):List AV).getD k_ aB)
   have kF:=pK (d:=d) (h:=h) (u:=w) WA hG aw
   have q1:=dg (0<((txt.length:Nat):Int))
   have u2:=KQ 3 true false 19 (List.length (bf w)) o! o!
   obtain ⟨z1,h1,⟨yb,PX⟩,A1⟩:=ud (d:=d) (hb:=hb) (w:=w) (R:=19 -(bf w).length) (19 -(bf w).length) 0 h z txt o! o! o! oz aw hle (fun k_=>((z::x::rx ya 2 3 ((ae w)::(ya 6)::(ya 7)::(AV.str (bf w))::rx ya 9 8 ((ae w)::(AV.str (bf w))::z::(ag txt.length)::(aj (decide (0<((txt.length:Nat):Int))))::(AV.str (bf w))::(ag (List.length (bf w)))::(ag (19 -(List.length (bf w))))::(af 0)::rx ya 26 11 []))):List AV).getD k_ aB)
   have aK:=A1.y
   obtain ⟨z4,h3,GD,bt,uL,abv,abw⟩:=iY.adH (xd:= .string) aK (A1.o) (tys:= #[97,9]) rfl rfl k! k! rfl k! (bytes:=1) k! (z0:=AV.int .u8 0) k! rfl (by decide) (M:=aA .u8 (cL (bf w))) (UK _) (J1 _) (jG _ _) (abt cR) (by rw[aM,aM,fM];first | omega | (rw[List.length_append,List.length_replicate];omega))
   have ev:=pk (d+5) gK (z::x::aV 35) h .ret h3 (CN 3<|VV (nx).len<|CC<|LL Cu<|CC<|EE kF<|CN 2<|VV (nz).len<|VV (bM 3 false true .i64 ((txt.length:Nat):Int) 0)<|BB q1<|CN 2<|VV u2<|CC<|LL PX<|CN 2<|PP GD<|CC<|ZZ) k!
   exact ⟨_,App.call rfl (az Tryz.func135 vm k! (.inr rfl) ev k!) aw oz (A1.trans aw (App.one bt uL (by have:=A1.n;omega) abv (by rw[H0];exact abw)))⟩
noncomputable def gU:Code:=(Tryz.f89.body).getD .skip
theorem m9:Tryz.f89.body=some gU:=by kernel_rfl
theorem DD {h:ah} {t e:TypeId} {p i:Nat} {v:AV} {cs:List AV} {ro:Bool} (ht:iS env t=some false) (hg:h.get p=some (.cells cs e ro)) (hv:cs[i]? =some v):bk env h t (.ptr p i)=some v:=aN hg (by simp only[jX,ht,hv])
theorem rM.apart {hb h hk:ah} {e:TypeId} {z q:AV} {L:List AV} {l:List Nat} (y:Tidy h) (oz:iY e hb h z L) (o:rM h hk q l):J3 z q:=fun p a n c b ez=>by
 subst ez
 rcases oz with ⟨e1,_⟩ | ⟨_,p',op,e1,_,hg⟩
 · cases e1
 · cases e1
   have:=y _ _ hg
   rcases o with ⟨rfl,_⟩ | ⟨p2,c2,op2,C,rfl,uj,_⟩
   · intro _ _ _ _ e;cases e
   · exact mj.slice o!
theorem App.apart {hb h h1 hk:ah} {z z' q:AV} {txt new l:List Nat} (y1:Tidy h1) (A:App hb h1 hk z z' txt new) (ha:J3 z q) (o:rM h h1 q l):J3 z' q:=by
 rcases A.c with ⟨_,e,_⟩ | o2
 · rw[e];exact ha
 · intro p a n c b ez
   subst ez
   rcases o2 with ⟨e1,_⟩ | ⟨_,p',op,e1,hp,_⟩
   · cases e1
   · cases e1
     rcases o with ⟨rfl,_⟩ | ⟨p2,c2,op2,C,rfl,_,hg,_⟩
     · intro _ _ _ _ e;cases e
     · have:=y1 _ _ hg
       exact mj.slice o!
theorem H2:∀(a m q r:Nat),r<10^m→dW (q*10^m+r) (a+m)=dW q a++dW r m
 | a,0,q,r,h=>by
  have:r=0:=by simpa using h
  subst this
  simp [dW]
 | a,m+1,q,r,h=>by
  have e1:(q*10^(m+1)+r) /10=q*10^m+r/10:=by rw[Nat.pow_succ,←Nat.mul_assoc];omega
  have e2:(q*10^(m+1)+r)%10=r%10:=by rw[Nat.pow_succ,←Nat.mul_assoc];omega
  rw[show a+(m+1)=(a+m)+1 by omega,dW,dW,e1,e2,H2 a m q (r/10) (by rw[Nat.div_lt_iff_lt_mul (by decide)];rwa [Nat.pow_succ] at h),List.append_assoc]
theorem abx {q r m:Nat} (hq:q≠0) (hr:r<10^m):eg (q*10^m+r)=eg q+m:=by
 obtain ⟨n1,n2,n3⟩:=eM q hq
 have h1:10^(eg q+m - 1)≤q*10^m+r:=by
  rw[show eg q+m - 1=(eg q - 1)+m by omega,Nat.pow_add]
  exact Nat.le_trans (Nat.mul_le_mul_right _ n2) (Nat.le_add_right _ _)
 have h2:q*10^m+r<10^(eg q+m):=by
  rw[Nat.pow_add]
  calc q*10^m+r<q*10^m+10^m:=by omega
   _=(q+1)*10^m:=by rw[Nat.add_mul,Nat.one_mul]
   _≤_:=Nat.mul_le_mul_right _ n3
 have:=l9 (eg q+m - 1) _ h1 (by rw[show eg q+m - 1+1=eg q+m by omega];exact h2)
 omega
theorem aby {txt:List Nat} {v n:Nat} (hn:1≤n) (h:v<10^n):(mn txt v n).length≤n:=by
 rw[mn]
 split
 · split
   · exact Nat.zero_le _
   · rw[fF];exact LO hn h
 · rw[fF];exact Nat.le_refl _
theorem adI {txt:List Nat} {v n:Nat} (hn:1≤n) (h:v≠0∨txt≠ []):mn txt v n≠ []:=fun e=>by
 have e:=congrArg List.length e
 rw[mn] at e
 split at e
 · rename_i q
   split at e
   · rename_i q2;exact h.elim (fun f=>f q2) fun f=>f q
   · rw[fF] at e;have:=Cv v;simp at e;omega
 · rw[fF] at e;simp at e;omega
theorem PY {txt:List Nat} {v m Y:Nat} (hm:1≤m) (hY:Y=10^m) (hg:v/Y≠0∨txt≠ []):mn txt v (m+m)=mn txt (v/Y) m++mn (txt++mn txt (v/Y) m) (v%Y) m:=by
 have Kb:0<Y:=by rw[hY];exact Nat.pow_pos (by decide)
 have hr:v%Y<10^m:=by rw[←hY];exact Nat.mod_lt _ Kb
 have hv:v=v/Y*10^m+v%Y:=by rw[←hY,Nat.mul_comm];exact (Nat.div_add_mod _ _).symm
 have h2:mn (txt++mn txt (v/Y) m) (v%Y) m=dW (v%Y) m:=if_neg fun e=>adI hm hg (List.append_eq_nil_iff.1 e).2
 rw[h2]
 by_cases q:txt=[]
 · have hq:v/Y≠0:=hg.elim id fun f=>absurd q f
   have hv0:v≠0:=fun e=>hq (by rw[e,Nat.zero_div])
   rw[mn,if_pos q,if_neg hv0,mn,if_pos q,if_neg hq]
   conv=>lhs;rw[hv]
   rw[abx hq hr,H2 _ _ _ _ hr]
 · rw[mn,if_neg q,mn,if_neg q]
   conv=>lhs;rw[hv]
   exact H2 _ _ _ _ hr
theorem abz {v m Y:Nat} (hY:Y=10^m) (hq:v/Y=0):mn [] v (m+m)=mn [] (v%Y) m:=by
 have Kb:0<Y:=by rw[hY];exact Nat.pow_pos (by decide)
 have:v%Y=v:=Nat.mod_eq_of_lt (by rcases Nat.div_eq_zero_iff.1 hq with h | h;omega;exact h)
 rw[this];rfl
theorem xM {hb:ah} {p c K:Nat} {op:Bool} {cs:List AV} {f:TypeId} {ro:Bool} (yb:Tidy hb) (hG:hb.get 1=some (.cells (aA .u64 pb) f ro)) (hT:hb.get p=some (.cells cs 56 false)) (hN:∀i,i<K→∃s,cs[i]? =some s∧ao env hb .u64 54 s (aq (10^(19*2^i)))) (hKc:K≤c) (hc:0<c) (hc2:c<1000000):
 ∀k,k≤K→∀{d:Nat} (h:ah) (x z:AV) (txt:List Nat) (v:Nat),hb.nx≤h.nx→ao env h .u64 54 x (aq v)→J3 z x→v<10^(19*2^k)→(aq v).length<268435456→iY 5 hb h z (aA .u8 txt)→txt.length+19*2^k≤500000000→Has hb h→Tidy h→
 ∃z' hk,aQ (d+k+8) (.fn 89) [z,x,.slice p 0 k c op] h= .ret z' hk∧App hb h hk z z' txt (mn txt v (19*2^k))
 | 0,hk,d,h,x,z,txt,v,hle,nx,hap,hv,gD,oz,htl,a0,aw=>by
  have amn:v<10000000000000000000:=hv
  have hle:=hle
  obtain ⟨z1,h1,vI,agY⟩:=LP (d:=d+1) (hb:=hb) (txt:=txt) (w:=v) hle nx amn oz o! (a0 _ _ hG) aw
  have aK:=agY.y
  have ajO:=agY.n
  have ev:=pk (d+7) gU (z::x::(AV.slice p 0 0 c op)::aV 45) h .ret h1 (CN 4<|TT<|CN 2<|EE vI<|CC<|ZZ) k!
  exact ⟨_,App.call rfl (az Tryz.func89 m9 k! (.inr rfl) ev k!) aw oz agY⟩
 | k+1,hk,d,h,x,z,txt,v,hle,nx,hap,hv,gD,oz,htl,a0,aw=>by
  have IH:= @xM hb p c K op cs f ro yb hG hT hN hKc hc hc2 k
  obtain ⟨ty,Vf,ny⟩:=hN k o!
  have hm1:1≤19*2^k:=by have:=Nat.pow_pos (n:=k) (show 0<2 by decide);omega
  have hmm:19*2^(k+1)=19*2^k+19*2^k:=by rw[Nat.pow_succ];omega
  rw[hmm] at hv htl ⊢
  obtain ⟨Y,hY⟩:∃Y,Y=10^(19*2^k):=⟨_,rfl⟩
  have hYp:0<Y:=by rw[hY];exact Nat.pow_pos (by decide)
  have Fm:Y≠0:=by omega
  rw[←hY] at ny
  have hvY:v<Y*Y:=by rw[Nat.pow_add,←hY] at hv;exact hv
  have hqY:v/Y<10^(19*2^k):=by rw[←hY];exact Nat.div_lt_of_lt_mul hvY
  have hrY:v%Y<10^(19*2^k):=by rw[←hY];exact Nat.mod_lt _ hYp
  have hq1:v/Y≤v:=Nat.div_le_self _ _
  have Mg:v%Y≤v:=Nat.mod_le _ _
  have WU:=aby (txt:=txt) hm1 hqY
  have nz:=oz.aA o! k! k!
  by_cases q:v/Y=0
  · have q1:(aq (v/Y)).length=0:=by rw[q,cO];rfl
    by_cases q2:txt=[]
    · have q3:txt.length=0:=by rw[q2];rfl
      have q1:=cI ((((k+1):Nat):Int)=0)
      have u2:=KQ 3 false true (k+1) 1 o! o!
      obtain ⟨zq,zr,h3,pA,fZ,oq,LZ⟩:=xb (d:=d+k+1) (h:=h) (x:=x) (y:=ty) (X:=v) (Y:=Y) nx (ny.has a0) Fm gD aw
      have bt:=fZ.y
      have uL:=fZ.n
      have nq:=oq.aA (by have:=bG hq1;omega)
      have nr:=LZ.aA (by have:=bG Mg;omega)
      have oz1:=oz.has fZ.a
      have aX:=fZ.a
      have q4:=cI (0<(((aq (v/Y)).length:Nat):Int))
      have q5:=cI (0<((txt.length:Nat):Int))
      have sl6:aZ env 146 (AV.slice p 0 (k+1) c op) (none) (some (ag ((k+1) - 1))) (none)=some (AV.slice p 0 ((k+1) - 1) c op):=gI (e:=56) k! k! o! o! o! o!
      obtain ⟨z2,h7,ml,H4⟩:=IH o! (d:=d) h3 zr z txt (v%Y) o! nr (rM.apart aw oz LZ) hrY (by have:=bG Mg;omega) oz1 o! (a0.trans fZ.a) bt
      have eC:=H4.y
      have IA:=H4.n
      have ev:=pk (d+k+8) gU (z::x::(AV.slice p 0 (k+1) c op)::aV 45) h .ret h7 (CN 3<|VV (bQ 3 false true .i64 (((k+1):Nat):Int) 0)<|BB q1<|CN 2<|VV u2<|CN 4<|VV (show bq env (some (.slice 56)) (some (AV.slice p 0 (k+1) c op)) (some (ag ((k+1) - 1)))=some (AV.ptr p k) from cN k! o! o!)<|MM (show bk env h 56 (AV.ptr p k)=some ty from DD k! (a0 _ _ hT) Vf)<|EE pA<|CN 6<|VV (nq).len<|VV (bM 3 false true .i64 (((aq (v/Y)).length:Nat):Int) 0)<|CC<|BB q4<|CC<|BB q4<|VV (nz).len<|BB q4<|VV (bM 3 false true .i64 ((txt.length:Nat):Int) 0)<|VV (aL (a:=some (aj true)) (b:=some (aj (decide (0<((txt.length:Nat):Int))))) q4)<|BB q5<|CN 4<|QQ sl6<|EE ml<|CC<|ZZ) k!
      have e:mn txt v (19*2^k+19*2^k)=mn txt (v%Y) (19*2^k):=by rw[q2];exact abz hY q
      rw[e]
      exact ⟨_,App.call rfl (az Tryz.func89 m9 k! (.inr rfl) ev k!) aw oz (App.UM fZ.a uL H4)⟩
    · have q3:0<txt.length:=List.length_pos_iff.2 q2
      have q1:=cI ((((k+1):Nat):Int)=0)
      have u2:=KQ 3 false true (k+1) 1 o! o!
      obtain ⟨zq,zr,h3,pA,fZ,oq,LZ⟩:=xb (d:=d+k+1) (h:=h) (x:=x) (y:=ty) (X:=v) (Y:=Y) nx (ny.has a0) Fm gD aw
      have bt:=fZ.y
      have uL:=fZ.n
      have nq:=oq.aA (by have:=bG hq1;omega)
      have nr:=LZ.aA (by have:=bG Mg;omega)
      have oz1:=oz.has fZ.a
      have aX:=fZ.a
      have q4:=cI (0<(((aq (v/Y)).length:Nat):Int))
      have q5:=dg (0<((txt.length:Nat):Int))
      have sl6:aZ env 146 (AV.slice p 0 (k+1) c op) (none) (some (ag ((k+1) - 1))) (none)=some (AV.slice p 0 ((k+1) - 1) c op):=gI (e:=56) k! k! o! o! o! o!
      obtain ⟨z1,h7,ml,H4⟩:=IH o! (d:=d) h3 zq z txt (v/Y) o! nq (rM.apart aw oz oq) hqY (by have:=bG hq1;omega) oz1 o! (a0.trans fZ.a) bt
      have eC:=H4.y
      have IA:=H4.n
      have ajR:=H4.has (a0.trans fZ.a) yb oz1
      have ajS:=ao.frz nr H4.f (rM.apart aw oz LZ)
      have sl8:aZ env 146 (AV.slice p 0 (k+1) c op) (none) (some (ag ((k+1) - 1))) (none)=some (AV.slice p 0 ((k+1) - 1) c op):=gI (e:=56) k! k! o! o! o! o!
      obtain ⟨z2,h9,Dq,agZ⟩:=IH o! (d:=d) h7 zr z1 (txt++mn txt (v/Y) (19*2^k)) (v%Y) o! ajS (App.apart bt H4 (rM.apart aw oz LZ) LZ) hrY (by have:=bG Mg;omega) H4.o (by rw[List.length_append];omega) ajR eC
      have gR:=agZ.y
      have aai:=agZ.n
      have ev:=pk (d+k+8) gU (z::x::(AV.slice p 0 (k+1) c op)::aV 45) h .ret h9 (CN 3<|VV (bQ 3 false true .i64 (((k+1):Nat):Int) 0)<|BB q1<|CN 2<|VV u2<|CN 4<|VV (show bq env (some (.slice 56)) (some (AV.slice p 0 (k+1) c op)) (some (ag ((k+1) - 1)))=some (AV.ptr p k) from cN k! o! o!)<|MM (show bk env h 56 (AV.ptr p k)=some ty from DD k! (a0 _ _ hT) Vf)<|EE pA<|CN 6<|VV (nq).len<|VV (bM 3 false true .i64 (((aq (v/Y)).length:Nat):Int) 0)<|CC<|BB q4<|CC<|BB q4<|VV (nz).len<|BB q4<|VV (bM 3 false true .i64 ((txt.length:Nat):Int) 0)<|VV (aL (a:=some (aj true)) (b:=some (aj (decide (0<((txt.length:Nat):Int))))) q4)<|BB q5<|CN 4<|QQ sl6<|EE ml<|CN 5<|QQ sl8<|EE Dq<|CC<|ZZ) k!
      rw[PY hm1 hY (.inr q2)]
      exact ⟨_,App.call rfl (az Tryz.func89 m9 k! (.inr rfl) ev k!) aw oz (App.UM fZ.a uL (H4.trans bt agZ))⟩
  · have q1:0<(aq (v/Y)).length:=List.length_pos_iff.2 fun e=>q (dZ.1 e)
    have q1:=cI ((((k+1):Nat):Int)=0)
    have u2:=KQ 3 false true (k+1) 1 o! o!
    obtain ⟨zq,zr,h3,pA,fZ,oq,LZ⟩:=xb (d:=d+k+1) (h:=h) (x:=x) (y:=ty) (X:=v) (Y:=Y) nx (ny.has a0) Fm gD aw
    have bt:=fZ.y
    have uL:=fZ.n
    have nq:=oq.aA (by have:=bG hq1;omega)
    have nr:=LZ.aA (by have:=bG Mg;omega)
    have oz1:=oz.has fZ.a
    have aX:=fZ.a
    have q4:=dg (0<(((aq (v/Y)).length:Nat):Int))
    have V8:aZ env 146 (AV.slice p 0 (k+1) c op) (none) (some (ag ((k+1) - 1))) (none)=some (AV.slice p 0 ((k+1) - 1) c op):=gI (e:=56) k! k! o! o! o! o!
    obtain ⟨z1,h6,vL,S7⟩:=IH o! (d:=d) h3 zq z txt (v/Y) o! nq (rM.apart aw oz oq) hqY (by have:=bG hq1;omega) oz1 o! (a0.trans fZ.a) bt
    have dh:=S7.y
    have GG:=S7.n
    have ajT:=S7.has (a0.trans fZ.a) yb oz1
    have ajU:=ao.frz nr S7.f (rM.apart aw oz LZ)
    have sl7:aZ env 146 (AV.slice p 0 (k+1) c op) (none) (some (ag ((k+1) - 1))) (none)=some (AV.slice p 0 ((k+1) - 1) c op):=gI (e:=56) k! k! o! o! o! o!
    obtain ⟨z2,h8,Hc,ag0⟩:=IH o! (d:=d) h6 zr z1 (txt++mn txt (v/Y) (19*2^k)) (v%Y) o! ajU (App.apart bt S7 (rM.apart aw oz LZ) LZ) hrY (by have:=bG Mg;omega) S7.o (by rw[List.length_append];omega) ajT dh
    have eQ:=ag0.y
    have aaa:=ag0.n
    have ev:=pk (d+k+8) gU (z::x::(AV.slice p 0 (k+1) c op)::aV 45) h .ret h8 (CN 3<|VV (bQ 3 false true .i64 (((k+1):Nat):Int) 0)<|BB q1<|CN 2<|VV u2<|CN 4<|VV (show bq env (some (.slice 56)) (some (AV.slice p 0 (k+1) c op)) (some (ag ((k+1) - 1)))=some (AV.ptr p k) from cN k! o! o!)<|MM (show bk env h 56 (AV.ptr p k)=some ty from DD k! (a0 _ _ hT) Vf)<|EE pA<|CN 6<|VV (nq).len<|VV (bM 3 false true .i64 (((aq (v/Y)).length:Nat):Int) 0)<|CC<|BB q4<|BB q4<|BB q4<|VV (aG (a:=some (aj true)) (b:=some aB) q4)<|TT<|CN 4<|QQ V8<|EE vL<|CN 5<|QQ sl7<|EE Hc<|CC<|ZZ) k!
    rw[PY hm1 hY (.inl q)]
    exact ⟨_,App.call rfl (az Tryz.func89 m9 k! (.inr rfl) ev k!) aw oz (App.UM fZ.a uL (S7.trans bt ag0))⟩
noncomputable def ow:Code:=(Tryz.f51.body).getD .skip
theorem PZ:Tryz.f51.body=some ow:=by kernel_rfl
noncomputable def rD:Code:=(aY ow).getD 0 .skip
noncomputable def A0:Code:=(aY ow).getD 1 .skip
theorem adJ {h:ah} {p:Nat} {R:List Nat} {f:TypeId} {ro:Bool} (hg:h.get p=some (.cells (aA .u8 R) f ro)):IM h p 0 R.length=some (.str (vv R)):=by
 have:=B9 (o:=0) (n:=R.length) hg o!
 rwa [List.drop_zero,List.take_length] at this
theorem App.ag1 {hb h hk:ah} {z':AV} {txt new:List Nat} (A:App hb h hk .ax z' txt new):Has h hk:=fun i x g=>A.f i x (fun _ _ _ _ e=>by cases e) g
theorem App.slice {hb h hk:ah} {z':AV} {new m:List Nat} (A:App hb h hk .ax z' [] new) (e:new=m) (hm:0<m.length):∃p op,z'= .slice p 0 m.length m.length op∧hk.get p=some (.cells (aA .u8 m) 5 false):=by
 subst e
 rcases A.o with ⟨_,e⟩ | ⟨_,p,op,e1,_,hg⟩
 · have:=congrArg List.length e
   rw[aM,List.nil_append,List.length_nil] at this
   omega
 · rw[List.nil_append] at e1 hg
   rw[aM] at e1
   exact ⟨p,op,e1,hg⟩
theorem ao.isSlice {h:ah} {z:AV} {l:List Nat} (x:ao env h .u64 54 z l) (hl:0<l.length):∃p o n c b,z= .slice p o n c b:=by
 rcases x.known with rfl | ⟨p,o,n,c,b,e,_⟩
 · have h1:=x.len
   rw[nZ] at h1
   simp only[Option.some.injEq,AV.int.injEq,true_and] at h1
   omega
 · exact ⟨p,o,n,c,b,e⟩
theorem WB {h:ah} {i:Nat} (g:h.get i=some (.cells [.int .u64 10000000000000000000] 54 false)):ao env h .u64 54 (.slice i 0 1 1 false) (aq (10^(19*2^0))):=by
 rw[show (10:Nat)^(19*2^0)=10000000000000000000 from rfl,eK (by decide) (by decide)]
 exact qw (k:=10000000000000000000) (c:=0) g rfl
theorem adK {N K:Nat} (hN:N<20000) (h:2^K≤4*N+6):K<20∧2^K<100000:=
 ⟨(Nat.pow_lt_pow_iff_right (by decide:1<2)).1 (Nat.lt_of_le_of_lt h (show 4*N+6<2^20 by omega)),by omega⟩
theorem S8 {j N:Nat} (h:2*(aq (10^(19*2^j))).length≤N+1):2^j≤N+1:=by
 have h1:=nJ (10^(19*2^j))
 have h2:(2^63)^(2^j)≤(10^19)^(2^j):=Nat.pow_le_pow_left (by decide) _
 rw[←Nat.pow_mul,←Nat.pow_mul] at h2
 have h3:2^(63*2^j)<2^(64*(aq (10^(19*2^j))).length):=by
  rw[Nat.pow_mul 2 64]
  exact Nat.lt_of_le_of_lt h2 h1
 have:=(Nat.pow_lt_pow_iff_right (by decide:1<2)).1 h3
 omega
theorem WC {T X N:Nat} (hT:T≠0) (hN:(aq X).length=N) (h:¬2*(aq T).length≤N+1):X<T*T:=by
 have h1:=GX hT
 have h2:=nJ X
 rw[hN] at h2
 have h3:18446744073709551616^N≤18446744073709551616^((aq T).length - 1+((aq T).length - 1)):=Nat.pow_le_pow_right (by decide) o!
 rw[Nat.pow_add] at h3
 exact Nat.lt_of_lt_of_le h2 (Nat.le_trans h3 (Nat.mul_le_mul h1 h1))
theorem P2 {d:Nat} {h:ah} {x:AV} {v N:Nat} (hv:v<18446744073709551616) (nx0:ao env h .u64 54 x (aq v)) (hN:(aq v).length=N) (x_:Nat→AV):
 ∃y:Nat→AV,Ev env (aQ (d+28)) (.loop rD) ⟨(rx x_ 0 4 ((aa 0)::rx x_ 5 9 (x::(ag N)::(af 0)::rx x_ 17 31 []))),h,[],.no⟩ (.exit 0) ⟨(rx y 0 4 ((ae v)::rx y 5 43 [])),h,[],.no⟩:=by
 subst hN
 obtain ⟨l,hl⟩:∃l,l=aq v:=⟨_,rfl⟩
 rw[←hl] at nx0 ⊢
 have nx:=nx0
 have h1:l.length≤1:=by rw[hl];exact gZ (by simpa using hv)
 have last:∀(w:Nat),w=v→∀k,k=l.length→∀x_:Nat→AV,∃y:Nat→AV,Ev env (aQ (d+28)) (.loop rD) ⟨(rx x_ 0 4 ((ae w)::rx x_ 5 9 (x::(ag l.length)::(ag k)::rx x_ 17 31 []))),h,[],.no⟩ (.exit 0) ⟨(rx y 0 4 ((ae v)::rx y 5 43 [])),h,[],.no⟩:=by
  rintro w rfl k hk x_
  have q1:=cI ((k:Int)<((l.length:Nat):Int))
  have ev:=pk (d+28) rD (rx x_ 0 4 ((ae w)::rx x_ 5 9 (x::(ag l.length)::(ag k)::rx x_ 17 31 []))) h (.exit 0) h (VV (bh 3 false false .i64 (k:Int) ((l.length:Nat):Int))<|BB q1<|ZZ) k!
  exact cT (Ev.out ev) k!
 by_cases q:v=0
 · have e:l.length=0:=by rw[hl,q,cO];rfl
   exact last 0 q.symm 0 e.symm x_
 · have e:l=[v]:=by rw[hl];exact eK q hv
   have e1:l.length=1:=by rw[e];rfl
   have e2:l.getD 0 0=v:=by rw[e];rfl
   obtain ⟨k,XF⟩:∃k,k=0:=⟨_,rfl⟩
   obtain ⟨w,hw0⟩:∃w,w=0:=⟨_,rfl⟩
   have hg:∃y:Nat→AV,Ev env (aQ (d+28)) (.loop rD) ⟨(rx x_ 0 4 ((ae w)::rx x_ 5 9 (x::(ag l.length)::(ag k)::rx x_ 17 31 []))),h,[],.no⟩ (.exit 0) ⟨(rx y 0 4 ((ae v)::rx y 5 43 [])),h,[],.no⟩:=by
    have q1:=dg ((k:Int)<((l.length:Nat):Int))
    obtain ⟨p2,q3,yX,vp⟩:=nx.j8 (k:Int) (show k<l.length by omega)
    have u6:=fX 3 false true k 1 o!
    have ev:=pk (d+28) rD (rx x_ 0 4 ((ae w)::rx x_ 5 9 (x::(ag l.length)::(ag k)::rx x_ 17 31 []))) h .normal h (VV (bh 3 false false .i64 (k:Int) ((l.length:Nat):Int))<|BB q1<|VV yX<|MM vp<|CN 3<|VV u6<|CC<|ZZ) k!
    exact bO (tin:=fun x_=>(rx x_ 0 4 ((ae (l.getD k 0))::rx x_ 5 9 (x::(ag l.length)::(ag (k+1))::rx x_ 17 31 [])))) ev k! fun x_=>last _ (by rw[XF];exact e2) (k+1) o! x_
   subst XF hw0
   exact hg
theorem iY.abA {hb h:ah} {e:TypeId} {z s:AV} {cs:List AV} {l:List Nat} (o:iY e hb h z cs) (Vf:∀v∈cs,∀(k:IntKind) (i:Int),v≠ .int k i) (ns:ao env h .u64 54 s l) (hl:l≠ []):J3 z s:=fun p a n c b ez=>by
 subst ez
 rcases o with ⟨e1,_⟩ | ⟨_,p',op,e1,_,hg⟩
 · cases e1
 · cases e1
   intro o' n' c' b' es
   subst es
   obtain ⟨_,h2⟩:=ns.inv
   obtain ⟨_,C,f,ro,SG,hC⟩:=h2 hl
   rw[hg] at SG
   cases SG
   cases l with
   | nil=>exact hl rfl
   | cons w l=>exact Vf _ (List.mem_of_getElem? (hC 0 w rfl)) _ _ rfl
theorem ao.ajV {h:ah} {s:AV} {l:List Nat} (ns:ao env h .u64 54 s l) (k:IntKind) (i:Int):s≠ .int k i:=by
 rcases ns.known with rfl | ⟨p,o,n,c,b,rfl,_⟩<;>intro e<;>cases e
theorem Cw {d:Nat} {hb:ah} {X N:Nat} {ra:AV} (ajW:Tidy hb) (nw0:ao env hb .u64 54 ra (aq X)) (hN:(aq X).length=N) (hN4:N<20000):∀(r j:Nat) (h:ah) (tv top:AV) (cs:List AV),j+r=N+2→2^j≤2*N+3→iY 56 hb h tv cs→cs.length=j+1→(∀i,i<j+1→∃s,cs[i]? =some s∧ao env h .u64 54 s (aq (10^(19*2^i))))→cs[j]? =some top→Has hb h→Tidy h→hb.nx≤h.nx→∀x_:Nat→AV,
 ∃(q_:Nat×Nat×Bool×List AV) (h2:ah),(∃y:Nat→AV,Ev env (aQ (d+28)) (.loop A0) ⟨(rx x_ 0 3 (ra::rx x_ 4 3 (tv::top::rx x_ 9 39 []))),h,[],.no⟩ (.exit 2) ⟨(rx y 0 3 (ra::rx y 4 3 ((AV.slice q_.1 0 q_.2.1 q_.2.1 q_.2.2.1)::rx y 8 40 []))),h2,[],.no⟩)∧Tidy h2∧Has hb h2∧hb.nx≤h2.nx∧0<q_.2.1∧2^q_.2.1≤4*N+6∧h2.get q_.1=some (.cells q_.2.2.2 56 false)∧(∀i,i<q_.2.1→∃s,q_.2.2.2[i]? =some s∧ao env h2 .u64 54 s (aq (10^(19*2^i))))∧X<10^(19*2^q_.2.1)
 | 0,j,h,tv,top,cs,hj,hJ,ot,hlen,Vf,GO,a0,aw,hle,x_=>by
  exfalso
  have e:j=N+2:=by omega
  subst e
  have h1:N<2^N:=Nat.lt_two_pow_self
  rw[Nat.pow_add] at hJ
  omega
 | r+1,j,h,tv,top,cs,hj,hJ,ot,hlen,Vf,GO,a0,aw,hle,x_=>by
  have nw:=nw0.has a0
  obtain ⟨amo,et,WD⟩:=Vf j o!
  rw[GO] at et
  obtain rfl:top=amo:=by simpa using et
  obtain ⟨T,hT⟩:∃T,T=10^(19*2^j):=⟨_,rfl⟩
  have hTT:T*T=10^(19*2^(j+1)):=by rw[hT,←Nat.pow_add];congr 1;rw[Nat.pow_succ];omega
  have hTp:T≠0:=by rw[hT];exact Nat.pos_iff_ne_zero.1 (Nat.pow_pos (by decide))
  rw[←hT] at WD
  have hT0:0<(aq T).length:=List.length_pos_iff.2 fun e=>hTp (dZ.1 e)
  have hTs:=WD.small
  by_cases q:2*(aq T).length≤N+1
  · have hj2:=S8 (j:=j) (N:=N) (by rw[←hT];exact q)
    have hj3:j<2^j:=Nat.lt_two_pow_self
    have hT2:10^(19*2^(j+1))=T*T:=hTT.symm
    have anq:cs.length≤100000:=by omega
    have hT3:0<(aq (10^(19*2^(j+1)))).length:=List.length_pos_iff.2 fun e=>(Nat.pos_iff_ne_zero.1 (Nat.pow_pos (by decide))) (dZ.1 e)
    have u1:=YB 3 true false 2 ((aq T).length) o!
    have u2:=fX 3 false true N 1 o!
    have q3:=dg (((2*((aq T).length):Nat):Int)≤((N+1:Nat):Int))
    obtain ⟨zp,h4,D,RW,Dc,nzp,wD,vD,lD,anr⟩:=HZ (d:=d+25) (h:=h) WD WD (bH T) (bH T) hT0 (Nat.le_refl _) o! aw
    have gk:=Dc.y
    have VL:=Dc.n
    have iy:=Dc.a
    obtain ⟨rt,kt,nrt,_⟩:=Gy (d:=d+27) (h:=h4) nzp
    rw[iC wD,vD,cd,←hT2] at nrt
    obtain ⟨tp,to_,tn,tc,tb,rfl⟩:=ao.isSlice nrt hT3
    obtain ⟨h5,Wi,fA,wM,lu,aa6⟩:=de gk (ar.cells [(AV.slice tp to_ tn tc tb)] 56 false)
    have ep:=iy.trans aa6
    obtain ⟨z7,h6,ajX,dh,GG,ag2,amp⟩:=iY.adH (xd:= .slice 56) fA (ot.has ep) (tys:= #[146,146]) rfl rfl k! k! rfl k! (bytes:=24) k! (z0:=bE) k! rfl (by decide) (M:=[(AV.slice tp to_ tn tc tb)]) (LM (b:=false)) (DC lu) (by simp [ao.tZ nrt]) (by simp) (by simp;omega)
    have ev:=pk (d+28) A0 (rx x_ 0 3 (ra::rx x_ 4 3 (tv::top::rx x_ 9 39 []))) h .normal h6 (CC<|VV (WD).len<|VV u1<|CC<|VV (show dO (some (.slice 54)) (some ra)=some (ag N) from (by rw[←hN];exact (nw).len))<|VV u2<|VV (yV 3 false false .i64 ((2*((aq T).length):Nat):Int) ((N+1:Nat):Int))<|BB q3<|CN 2<|EE (show (aQ (d+28)) (.fn 88) [bE,top,top] h= .ret zp h4 from RW)<|EE kt<|CN 3<|NN Wi (fun i=>(AV.slice i 0 1 1 false))<|PP ajX<|CC<|ZZ) k!
    have DK:∀v∈cs,∀(k:IntKind) (i:Int),v≠ .int k i:=fun v hv k i=>by
     obtain ⟨n,hn⟩:=List.getElem?_of_mem hv
     have hn2:n<cs.length:=by
      rcases Nat.lt_or_ge n cs.length with h | h
      · exact h
      · rw[List.getElem?_eq_none h] at hn;cases hn
     obtain ⟨s,e1,e2⟩:=Vf n o!
     rw[e1] at hn
     cases hn
     exact ao.ajV e2 k i
    have ot1:=ot.has ep
    have EF:∀i,i<j+1+1→∃s,(cs++[AV.slice tp to_ tn tc tb])[i]? =some s∧ao env h6 .u64 54 s (aq (10^(19*2^i))):=fun i hi=>by
     by_cases hi2:i<j+1
     · obtain ⟨s,e1,e2⟩:=Vf i hi2
       refine ⟨s,by rw[List.getElem?_append_left o!];exact e1,?_⟩
       have e3:=e2.has ep
       exact ao.frz e3 ag2 (ot1.abA DK e3 fun e=>(Nat.pos_iff_ne_zero.1 (Nat.pow_pos (by decide))) (dZ.1 e))
     · obtain rfl:i=j+1:=by omega
       refine ⟨AV.slice tp to_ tn tc tb,by rw[List.getElem?_append_right o!];simp [hlen],?_⟩
       have e3:=nrt.has (bu gk Wi)
       exact ao.frz e3 ag2 (ot1.abA DK e3 fun e=>(Nat.pos_iff_ne_zero.1 (Nat.pow_pos (by decide))) (dZ.1 e))
    exact bp (tin:=fun x_=>(rx x_ 0 3 (ra::rx x_ 4 3 (z7::(AV.slice tp to_ tn tc tb)::rx x_ 9 39 [])))) ev k! fun x_=>Cw ajW nw0 hN hN4 r (j+1) h6 z7 (AV.slice tp to_ tn tc tb) (cs++[AV.slice tp to_ tn tc tb]) o! (by rw[Nat.pow_succ];omega) (amp.up o!) (by simp [hlen]) EF (by rw[List.getElem?_append_right o!];simp [hlen]) (ag2.has ot1 (a0.trans ep) ajW) dh o! x_
  · have u1:=YB 3 true false 2 ((aq T).length) o!
    have u2:=fX 3 false true N 1 o!
    have q3:=cI (((2*((aq T).length):Nat):Int)≤((N+1:Nat):Int))
    have ev:=pk (d+28) A0 (rx x_ 0 3 (ra::rx x_ 4 3 (tv::top::rx x_ 9 39 []))) h (.exit 2) h (CC<|VV (WD).len<|VV u1<|CC<|VV (show dO (some (.slice 54)) (some ra)=some (ag N) from (by rw[←hN];exact (nw).len))<|VV u2<|VV (yV 3 false false .i64 ((2*((aq T).length):Nat):Int) ((N+1:Nat):Int))<|BB q3<|ZZ) k!
    rcases ot with ⟨_,e⟩ | ⟨_,p,op,rfl,hp,hg⟩
    · rw[e] at hlen;simp at hlen
    · have XK:=WC hTp hN q
      rw[hTT] at XK
      rw[hlen] at ev ⊢
      exact ⟨(p,j+1,op,cs),h,cT (Ev.out ev) k!,aw,a0,hle,by show 0<j+1;omega,by show 2^(j+1)≤_;rw[Nat.pow_succ];omega,hg,Vf,XK⟩
theorem ue {d:Nat} {h:ah} {csx:List AV} {ajY:Bool} {X:Nat} {f:TypeId} {ro:Bool} (hx:cj h csx ajY (aq X)) (ans:(aq X).length<20000) (hG:h.get 1=some (.cells (aA .u64 pb) f ro)) (aw:Tidy h):aQ (d+29) (.fn 51) [.agg csx] h= .ret (.str (bf X)) h:=by
 obtain ⟨N,hN⟩:∃N,(aq X).length=N:=⟨_,rfl⟩
 have hN4:N<20000:=by omega
 obtain ⟨neg,e⟩:∃neg,neg=ajY:=⟨_,rfl⟩
 rw[←e] at hx
 obtain ⟨w0,w1,w2,w3,us,far,rfl,scx,wfx,hcx⟩:=id hx
 obtain ⟨ra,xV,ora⟩:=Hj (d:=d+27) (p:=h.nx) hx
 by_cases q:N≤1
 · have ajZ:X<18446744073709551616:=by
    have h1:=nJ X
    exact Nat.lt_of_lt_of_le h1 (Nat.le_trans (Nat.pow_le_pow_right (by decide) (show (aq X).length≤1 by omega)) (by decide))
   obtain ⟨h1,aO,aK,bm,aC,ck⟩:=de aw (ar.cells (au neg w0 w1 w2 w3 far us) 60 false)
   have aD:Has h h1:=ck
   have q2:=dg ((N:Int)≤1)
   obtain ⟨ya,Cu⟩:=P2 (d:=d) (h:=h1) (x:=ra) (v:=X) ajZ (xV _ _ _ _ rfl aD aC).2 (by rw[hN]) (fun k_=>(((AV.agg (au neg w0 w1 w2 w3 far us))::(AV.ptr h.nx 0)::(AV.str [])::ra::(aa 0)::aB::aB::aB::aB::(AV.ptr h.nx 1)::ra::ra::(ag N)::(aj (decide ((N:Int)≤1)))::ra::(ag N)::(af 0)::aV 31):List AV).getD k_ aB)
   have kF:=pK (d:=d+23) (h:=h1) (u:=X) ajZ (aD _ _ hG) aK
   have ev:=pk (d+28) ow ((AV.agg (au neg w0 w1 w2 w3 far us))::aV 47) h .ret h1 (NN aO (fun i=>(AV.ptr i 0))<|CN 2<|EE (show (aQ (d+28)) (.fn 79) [(AV.ptr h.nx 1)] h1= .ret ra h1 from (xV _ _ _ _ rfl aD aC).1)<|CN 2<|VV (show dO (some (.slice 54)) (some ra)=some (ag N) from (by rw[←hN];exact ((xV _ _ _ _ rfl aD aC).2).len))<|VV (yV 3 false true .i64 (N:Int) 1)<|BB q2<|CN 2<|VV (show dO (some (.slice 54)) (some ra)=some (ag N) from (by rw[←hN];exact ((xV _ _ _ _ rfl aD aC).2).len))<|CC<|LL Cu<|CC<|EE kF<|CC<|ZZ) k!
   exact ai rfl (az Tryz.func51 PZ k! (.inr rfl) ev k!) aD rfl
 · have Ek:X≠0:=fun e=>by rw[e,cO] at hN;simp at hN;omega
   have vA:∀{n:Nat},mn [] X n=dW X (eg X):=by intro n;rw[mn,if_pos rfl,if_neg Ek]
   obtain ⟨h1,aO,aK,bm,aC,ck⟩:=de aw (ar.cells (au neg w0 w1 w2 w3 far us) 60 false)
   have aD:Has h h1:=ck
   have q2:=cI ((N:Int)≤1)
   obtain ⟨h3,gn,bt,ky,eb,bC⟩:=de aK (ar.cells [(aa 10000000000000000000)] 54 false)
   obtain ⟨h4,sS,gk,wL,jH,sU⟩:=de bt (ar.cells [(AV.slice h1.nx 0 1 1 false)] 56 false)
   have nw:=(xV _ _ _ _ rfl aD aC).2
   obtain ⟨⟨pT,K,oT,cs⟩,h2,⟨yb,PX⟩,bP,b8,amd,hK0,hK2,hgT,hNT,hXT⟩:=Cw (d:=d) (hb:=h1) (X:=X) aK nw hN hN4 (N+2) 0 h4 (AV.slice h3.nx 0 1 1 false) (AV.slice h1.nx 0 1 1 false) [(AV.slice h1.nx 0 1 1 false)] o! o! (.inr ⟨by simp,_,false,rfl,by omega,jH⟩) rfl (fun i hi=>⟨(AV.slice h1.nx 0 1 1 false),by rw[show i=0 by omega];rfl,by rw[show i=0 by omega];exact WB (sU _ _ eb)⟩) rfl ((bu aK gn).trans (bu bt sS)) gk o! (fun k_=>(((AV.agg (au neg w0 w1 w2 w3 far us))::(AV.ptr h.nx 0)::(AV.str [])::ra::aB::aB::aB::(AV.slice h3.nx 0 1 1 false)::(AV.slice h1.nx 0 1 1 false)::(AV.ptr h.nx 1)::ra::ra::(ag N)::(aj (decide ((N:Int)≤1)))::KR 10 ((AV.slice h1.nx 0 1 1 false)::(AV.slice h3.nx 0 1 1 false)::(AV.slice h3.nx 0 1 1 false)::(AV.ptr h3.nx 0)::(AV.slice h1.nx 0 1 1 false)::aV 19)):List AV).getD k_ aB)
   have hK0:0<K:=hK0
   have hK2:2^K≤4*N+6:=hK2
   have hXT:X<10^(19*2^K):=hXT
   have ant:=adK hN4 hK2
   have b7:=aD.trans b8
   obtain ⟨zt,h5,pD,ag3⟩:=xM (hb:=h2) bP (by exact (b7 _ _ hG)) hgT hNT (Nat.le_refl K) hK0 o! K (Nat.le_refl K) (d:=d+(20 - K)) h2 ra .ax [] X (Nat.le_refl _) (nw.has b8) (fun _ _ _ _ _ e=>by cases e) hXT o! (.inl ⟨rfl,rfl⟩) (by rw[List.length_nil];omega) (Has.refl _) bP
   rw[show d+(20 - K)+K+8=d+28 by omega] at pD
   have fA:=ag3.y
   obtain ⟨pt,opt,rfl,hgt⟩:=ag3.slice vA (by rw[fF];have:=Cv X;omega)
   have ep:=b7.trans ag3.ag1
   have cv6:IM h5 pt 0 ((dW X (eg X)).length)=some (AV.str (bf X)):=adJ hgt
   have ev:=pk (d+28) ow ((AV.agg (au neg w0 w1 w2 w3 far us))::aV 47) h .ret h5 (NN aO (fun i=>(AV.ptr i 0))<|CN 2<|EE (show (aQ (d+28)) (.fn 79) [(AV.ptr h.nx 1)] h1= .ret ra h1 from (xV _ _ _ _ rfl aD aC).1)<|CN 2<|VV (show dO (some (.slice 54)) (some ra)=some (ag N) from (by rw[←hN];exact ((xV _ _ _ _ rfl aD aC).2).len))<|VV (yV 3 false true .i64 (N:Int) 1)<|BB q2<|NN gn (fun i=>(AV.slice i 0 1 1 false))<|NN sS (fun i=>(AV.slice i 0 1 1 false))<|CN 3<|MM (aJ 56 0 (AV.slice h1.nx 0 1 1 false) jH k!)<|CC<|LL PX<|CN 2<|EE (show (aQ (d+28)) (.fn 89) [bE,ra,(AV.slice pT 0 K K oT)] h2= .ret (AV.slice pt 0 ((dW X (eg X)).length) ((dW X (eg X)).length) opt) h5 from pD)<|MM cv6<|CC<|ZZ) k!
   exact ai rfl (az Tryz.func51 PZ k! (.inr rfl) ev k!) ep rfl
noncomputable def rE:Code:=(Tryz.f50.body).getD .skip
theorem EB:Tryz.f50.body=some rE:=by kernel_rfl
theorem LQ {call:aE} {h:ah} {mi:Bool} {w0 w1 w2 w3 us:Int} {far:AV} {y2:AV} {n4:Int} (aw:Tidy h) (ES:0≤h.nx) (k3:∀hh,Tidy hh→Has h hh→(h.nx≤hh.nx∧0≤hh.nx)→hh.get h.nx=some (ar.cells (au mi w0 w1 w2 w3 far us) 60 false)→call (.fn 79) [(AV.ptr h.nx 1)] hh= .ret y2 hh) (c5:dO (some (.slice 54)) (some y2)=some (af n4)) (q6:(decide (n4=0))=true):
 ∃(h1:ah),Ev env call rE ⟨((AV.agg (au mi w0 w1 w2 w3 far us))::aV 19),h,[],.no⟩ .ret ⟨((AV.agg (au mi w0 w1 w2 w3 far us))::(AV.ptr h.nx 0)::(af 0)::y2::(AV.ptr h.nx 1)::y2::y2::(af n4)::(aj (decide (n4=0)))::aV 11),h1,[],.no⟩∧Tidy h1∧Has h h1∧h1.nx=h.nx+1∧h1.get h.nx=some (ar.cells (au mi w0 w1 w2 w3 far us) 60 false):=by
 obtain ⟨h1,aO⟩:=eH (h:=h) (ar.cells (au mi w0 w1 w2 w3 far us) 60 false)
 have aK:=bI aw aO
 have bm:h1.nx=h.nx+1:=by rw[cW aO]
 have aD:=bu aw aO
 have aC:=bU aO
 exact ⟨h1,aR (n:=200) (NN aO (fun i=>(AV.ptr i 0))<|CN 2<|EE (show call (.fn 79) [(AV.ptr h.nx 1)] h1= .ret y2 h1 from k3 _ aK aD ⟨by omega,by omega⟩ aC)<|CN 2<|VV c5<|VV (bQ 3 false true .i64 n4 0)<|BB q6<|CC<|ZZ) k!,aK,aD,bm,aC⟩
theorem LS {call:aE} {h:ah} {mi:Bool} {w0 w1 w2 w3 us:Int} {far:AV} {y2:AV} {n4 sR pO:Int} {p9 C7:Nat} (aw:Tidy h) (ES:0≤h.nx) (k3:∀hh,Tidy hh→Has h hh→(h.nx≤hh.nx∧0≤hh.nx)→hh.get h.nx=some (ar.cells (au mi w0 w1 w2 w3 far us) 60 false)→call (.fn 79) [(AV.ptr h.nx 1)] hh= .ret y2 hh) (c5:dO (some (.slice 54)) (some y2)=some (af n4)) (q6:(decide (n4=0))=false) (w7:IntKind.i64.wrap (64*n4)=64*n4) (w8:IntKind.i64.wrap (n4 - 1)=n4 - 1) (IE:bq env (some (.slice 54)) (some y2) (some (af (n4 - 1)))=some (AV.ptr p9 C7)) (c13:∀hh,Has h hh→hh.get h.nx=some (ar.cells (au mi w0 w1 w2 w3 far us) 60 false)→bk env hh 54 (AV.ptr p9 C7)=some (aa sR)) (k15:∀hh,Tidy hh→Has h hh→(h.nx≤hh.nx∧0≤hh.nx)→call (.fn 86) [(aa sR)] hh= .ret (af pO) hh) (w16:IntKind.i64.wrap ((64*n4) - pO)=(64*n4) - pO):
 ∃(h1:ah),Ev env call rE ⟨((AV.agg (au mi w0 w1 w2 w3 far us))::aV 19),h,[],.no⟩ .ret ⟨[(AV.agg (au mi w0 w1 w2 w3 far us)),(AV.ptr h.nx 0),(af ((64*n4) - pO)),y2,(AV.ptr h.nx 1),y2,y2,(af n4),(aj (decide (n4=0))),y2,(af n4),(af (64*n4)),y2,y2,(af n4),(af (n4 - 1)),(AV.ptr p9 C7),(aa sR),(af pO),(af ((64*n4) - pO))],h1,[],.no⟩∧Tidy h1∧Has h h1∧h1.nx=h.nx+1∧h1.get h.nx=some (ar.cells (au mi w0 w1 w2 w3 far us) 60 false):=by
 obtain ⟨h1,aO⟩:=eH (h:=h) (ar.cells (au mi w0 w1 w2 w3 far us) 60 false)
 have aK:=bI aw aO
 have bm:h1.nx=h.nx+1:=by rw[cW aO]
 have aD:=bu aw aO
 have aC:=bU aO
 exact ⟨h1,aR (n:=200) (NN aO (fun i=>(AV.ptr i 0))<|CN 2<|EE (show call (.fn 79) [(AV.ptr h.nx 1)] h1= .ret y2 h1 from k3 _ aK aD ⟨by omega,by omega⟩ aC)<|CN 2<|VV c5<|VV (bQ 3 false true .i64 n4 0)<|BB q6<|CC<|VV c5<|VV (Iy 3 true false w7)<|CN 2<|VV c5<|VV (bT 3 false true w8)<|VV IE<|MM (show bk env h1 54 (AV.ptr p9 C7)=some (aa sR) from c13 _ aD aC)<|EE (show call (.fn 86) [(aa sR)] h1= .ret (af pO) h1 from k15 _ aK aD ⟨by omega,by omega⟩)<|VV (bT 3 false false w16)<|CC<|ZZ) k!,aK,aD,bm,aC⟩
theorem WE {h h1:ah} {r:AV} {l:List Nat} {b:Nat} {obj:ar} (hz:∀hh,Has h hh→hh.get b=some obj→ao env hh .u64 54 r l) (a1:Has h h1) (g1:h1.get b=some obj):
 dO (some (.slice 54)) (some r)=some (.int .i64 (l.length:Nat))∧l.length<2^60∧∀(i z:Nat),l[i]? =some z→∃p q,bq env (some (.slice 54)) (some r) (some (.int .i64 (i:Nat)))=some (.ptr p q)∧∀hh,Has h hh→hh.get b=some obj→bk env hh 54 (.ptr p q)=some (.int .u64 (z:Int)):=by
 have n1:=hz h1 a1 g1
 refine ⟨n1.len,n1.small,fun i z hi=>?_⟩
 obtain ⟨p,q,i1,_⟩:=n1.elem hi
 refine ⟨p,q,i1,fun hh a g=>?_⟩
 obtain ⟨p2,q2,i2,l2⟩:=(hz hh a g).elem hi
 have:=i1.symm.trans i2
 simp only[Option.some.injEq,AV.ptr.injEq] at this
 rw[this.1,this.2];exact l2
def afm (l:List Nat) (n:Nat):Prop:=(l=[]∧n=0)∨∃L,l≠ []∧rL (l.getD (l.length - 1) 0) L∧L≤64∧n=64*(l.length - 1)+L
theorem iR {d:Nat} {h:ah} {cs:List AV} {neg:Bool} {l:List Nat} (hw:cj h cs neg l) (wl:Words l) (gD:l.length<2^50) (hy:Tidy h) (po:0≤h.nx):
 ∃n:Nat,aQ (d+3) (.fn 50) [.agg cs] h= .ret (.int .i64 (n:Int)) h∧afm l n:=by
 obtain ⟨w0,w1,w2,w3,us,far,rfl,sc,wf,hc⟩:=hw
 obtain ⟨r,hr⟩:=Gx (d:=d+1) (p:=h.nx) hc
 obtain ⟨hb,hb1⟩:=eH (h:=h) (ar.cells [AV.bool neg,.int .u64 w0,.int .u64 w1,.int .u64 w2,.int .u64 w3,far,AV.int .i64 us] 60 false)
 obtain ⟨v1,v0,v2⟩:=WE (h:=h) (r:=r) (l:=l) (b:=h.nx) (fun hh a g=>(hr hh _ _ a g).2) (bu hy hb1) (bU hb1)
 have SM:0≤h.nx:=by omega
 by_cases q:l=[]
 · subst q
   obtain ⟨h1,ev,y1,a1,_⟩:=LQ (call:=aQ (d+2)) (mi:=neg) (w0:=w0) (w1:=w1) (w2:=w2) (w3:=w3) (far:=far) (us:=us) hy SM (fun hh _ a _ g=>(hr hh _ _ a g).1) v1 (dT rfl)
   exact ⟨0,ai rfl (az Tryz.func50 EB k! (.inr rfl) ev k!) a1 rfl,.inl ⟨rfl,rfl⟩⟩
 · have hl:0<l.length:=List.length_pos_iff.2 q
   obtain ⟨pp,qq,i1,ld⟩:=v2 (l.length - 1) (l.getD (l.length - 1) 0) (fK o!)
   have e1:((l.length - 1:Nat):Int)=((l.length:Nat):Int) - 1:=by omega
   rw[e1] at i1
   obtain ⟨L,_,hL,h64⟩:=dU (d:=d) (h:=h) (l.getD (l.length - 1) 0) (wl.getD _) hy o!
   have kz:∀hh,Tidy hh→0≤hh.nx→aQ (d+2) (.fn 86) [.int .u64 ((l.getD (l.length - 1) 0:Nat):Int)] hh= .ret (.int .i64 ((64 - L:Nat):Int)) hh:=by
    intro hh t1 t2
    obtain ⟨M,g1,g2,g3⟩:=dU (d:=d) (h:=hh) (l.getD (l.length - 1) 0) (wl.getD _) t1 o!
    have:M=L:=rL.unique g2 hL
    rw[this] at g1;exact g1
   obtain ⟨h1,ev,y1,a1,_⟩:=LS (call:=aQ (d+2)) (mi:=neg) (w0:=w0) (w1:=w1) (w2:=w2) (w3:=w3) (far:=far) (us:=us) hy SM (fun hh _ a _ g=>(hr hh _ _ a g).1) v1 (dF o!) (wrap_i64 o! o!) (wrap_i64 o! o!) i1 ld (fun hh t _ b=>kz hh t b.2) (wrap_i64 o! o!)
   have e:64*((l.length:Nat):Int) -((64 - L:Nat):Int)=((64*(l.length - 1)+L:Nat):Int):=by omega
   refine ⟨64*(l.length - 1)+L,?_,.inr ⟨L,q,hL,h64,rfl⟩⟩
   rw[←e]
   exact ai rfl (az Tryz.func50 EB k! (.inr rfl) ev k!) a1 rfl
noncomputable def uf:Code:=(Tryz.f24.body).getD .skip
theorem LU:Tryz.f24.body=some uf:=by kernel_rfl
theorem xN {l:List Nat} {n:Nat} (h:afm l n):n≤64*l.length:=by
 rcases h with ⟨_,e⟩ | ⟨L,hl,_,h64,e⟩
 · omega
 · have:=List.length_pos_iff.2 hl
   omega
theorem J4 {A k m:Nat} (h:A<10^k) (hk:4*k≤64*m):(aq A).length≤m:=gZ (by
 refine Nat.lt_of_lt_of_le h ?_
 rw[show (18446744073709551616:Nat)=2^64 from rfl,←Nat.pow_mul]
 refine Nat.le_trans (Nat.pow_le_pow_left (show 10≤2^4 by decide) k) ?_
 rw[←Nat.pow_mul]
 exact Nat.pow_le_pow_right (by decide) hk)
theorem P3 {A k:Nat} (hk:1≤k) (h:A<10^k):(bf A).length≤k:=by
 rw[bf,vv,List.length_map,fF];exact LO hk h
theorem xO {d:Nat} {h:ah} {cs:List AV} {m:Bool} {A D:Nat} {f:TypeId} {ro:Bool} (hr:zj h cs m A D) (hA:A<10^40000) (hD:D<10^40000) (hG:h.get 1=some (.cells (aA .u64 pb) f ro)) (aw:Tidy h):
 aQ (d+30) (.fn 24) [.agg cs] h= .ret (.tuple [.str (eT m A D),.int .i64 0]) h:=by
 obtain ⟨c1,c2,rfl,hx,hy⟩:=hr
 have lA:=J4 (m:=2500) hA (by decide)
 have lD:=J4 (m:=2500) hD (by decide)
 have sA:=P3 (by decide) hA
 have sD:=P3 (by decide) hD
 clear hA hD
 obtain ⟨du,dx,dy,dz,kH,aW,rfl,scx,wfx,hcx⟩:=id hx
 obtain ⟨lN,lO,lP,lS,lT,dG,rfl,scy,wfy,hcy⟩:=id hy
 have one:∀n,aq n=[1]→n=1:=fun n e=>by have:=cd n;rw[e] at this;simpa [ay] using this.symm
 obtain ⟨io,L1⟩:∃io,io=(!false&&decide (aq D=[1])):=⟨_,rfl⟩
 by_cases q:D=1
 · have e1:io=true:=by rw[L1,q,eK (by decide) (by decide)];rfl
   have e:eT m A D=(if m then [45]++bf A else bf A):=by rw[eT,if_pos q,List.append_nil]
   rw[e]
   cases m with
   | true=>
    obtain ⟨h1,aO,aK,bm,aC,ck⟩:=de aw (ar.cells [(aj true),(aa du),(aa dx),(aa dy),(aa dz),aW,(af kH),(aj false),(aa lN),(aa lO),(aa lP),(aa lS),dG,(af lT)] 66 false)
    have aD:Has h h1:=ck
    obtain ⟨nbA,kbA,blA⟩:=iR (d:=d+26) (hx.has aD o!) (bH _) o! aK (Nat.zero_le _)
    have bmA:=xN blA
    have q2:=cI (166666<(nbA:Int))
    obtain ⟨S9,kbD,blD⟩:=iR (d:=d+26) (hy.has aD o!) (bH _) o! aK (Nat.zero_le _)
    have bmD:=xN blD
    have q3:=cI (166666<(S9:Int))
    have kdA:=ue (d:=d) (hx.has aD o!) o! (aD _ _ hG) aK
    have q4:=cI (50000<((List.length (bf A):Nat):Int))
    have u5:=rP 9 true false [45] (bf A) (by first | omega | (simp;omega))
    have JG:=jw (d:=d+27) (hy.has aD o!) aK (Nat.zero_le _)
    rw[←L1] at JG
    have q6:io=true:=q!
    have ev:=pk (d+29) uf ((AV.agg [(aj true),(aa du),(aa dx),(aa dy),(aa dz),aW,(af kH),(aj false),(aa lN),(aa lO),(aa lP),(aa lS),dG,(af lT)])::aV 40) h .ret h1 (NN aO (fun i=>(AV.ptr i 0))<|CN 3<|MM (aJ 60 0 (AV.agg (au true du dx dy dz aW kH)) aC k!)<|EE kbA<|VV (bM 3 false true .i64 (nbA:Int) 166666)<|CC<|BB q2<|CC<|BB q2<|MM (aJ 60 7 (AV.agg (au false lN lO lP lS dG lT)) aC k!)<|BB q2<|EE kbD<|BB q2<|VV (bM 3 false true .i64 (S9:Int) 166666)<|VV (aL (a:=some (aj true)) (b:=some (aj (decide (166666<(S9:Int))))) q2)<|BB q3<|CC<|MM (aJ 60 0 (AV.agg (au true du dx dy dz aW kH)) aC k!)<|EE kdA<|CN 3<|VV (bM 3 false true .i64 ((List.length (bf A):Nat):Int) 50000)<|BB q4<|CN 2<|MM (aJ 4 0 (aj true) aC k!)<|TT<|CC<|VV u5<|CN 2<|MM (aJ 60 7 (AV.agg (au false lN lO lP lS dG lT)) aC k!)<|EE JG<|BB q6<|CN 3<|ZZ) k!
    exact ai rfl (az Tryz.func24 LU k! (.inr rfl) ev k!) aD rfl
   | false=>
    obtain ⟨h1,aO,aK,bm,aC,ck⟩:=de aw (ar.cells [(aj false),(aa du),(aa dx),(aa dy),(aa dz),aW,(af kH),(aj false),(aa lN),(aa lO),(aa lP),(aa lS),dG,(af lT)] 66 false)
    have aD:Has h h1:=ck
    obtain ⟨nbA,kbA,blA⟩:=iR (d:=d+26) (hx.has aD o!) (bH _) o! aK (Nat.zero_le _)
    have bmA:=xN blA
    have q2:=cI (166666<(nbA:Int))
    obtain ⟨S9,kbD,blD⟩:=iR (d:=d+26) (hy.has aD o!) (bH _) o! aK (Nat.zero_le _)
    have bmD:=xN blD
    have q3:=cI (166666<(S9:Int))
    have kdA:=ue (d:=d) (hx.has aD o!) o! (aD _ _ hG) aK
    have q4:=cI (50000<((List.length (bf A):Nat):Int))
    have JG:=jw (d:=d+27) (hy.has aD o!) aK (Nat.zero_le _)
    rw[←L1] at JG
    have q5:io=true:=q!
    have ev:=pk (d+29) uf ((AV.agg [(aj false),(aa du),(aa dx),(aa dy),(aa dz),aW,(af kH),(aj false),(aa lN),(aa lO),(aa lP),(aa lS),dG,(af lT)])::aV 40) h .ret h1 (NN aO (fun i=>(AV.ptr i 0))<|CN 3<|MM (aJ 60 0 (AV.agg (au false du dx dy dz aW kH)) aC k!)<|EE kbA<|VV (bM 3 false true .i64 (nbA:Int) 166666)<|CC<|BB q2<|CC<|BB q2<|MM (aJ 60 7 (AV.agg (au false lN lO lP lS dG lT)) aC k!)<|BB q2<|EE kbD<|BB q2<|VV (bM 3 false true .i64 (S9:Int) 166666)<|VV (aL (a:=some (aj true)) (b:=some (aj (decide (166666<(S9:Int))))) q2)<|BB q3<|CC<|MM (aJ 60 0 (AV.agg (au false du dx dy dz aW kH)) aC k!)<|EE kdA<|CN 3<|VV (bM 3 false true .i64 ((List.length (bf A):Nat):Int) 50000)<|BB q4<|CN 2<|MM (aJ 4 0 (aj false) aC k!)<|FF<|CC<|MM (aJ 60 7 (AV.agg (au false lN lO lP lS dG lT)) aC k!)<|EE JG<|BB q5<|CN 3<|ZZ) k!
    exact ai rfl (az Tryz.func24 LU k! (.inr rfl) ev k!) aD rfl
 · have e1:io=false:=by
    rw[L1]
    simp only[Bool.not_false,Bool.true_and,decide_eq_false_iff_not]
    exact fun e=>q (one D e)
   have e:eT m A D=((if m then [45]++bf A else bf A)++[47])++bf D:=by rw[eT,if_neg q,List.append_assoc]
   rw[e]
   cases m with
   | true=>
    obtain ⟨h1,aO,aK,bm,aC,ck⟩:=de aw (ar.cells [(aj true),(aa du),(aa dx),(aa dy),(aa dz),aW,(af kH),(aj false),(aa lN),(aa lO),(aa lP),(aa lS),dG,(af lT)] 66 false)
    have aD:Has h h1:=ck
    obtain ⟨nbA,kbA,blA⟩:=iR (d:=d+26) (hx.has aD o!) (bH _) o! aK (Nat.zero_le _)
    have bmA:=xN blA
    have q2:=cI (166666<(nbA:Int))
    obtain ⟨S9,kbD,blD⟩:=iR (d:=d+26) (hy.has aD o!) (bH _) o! aK (Nat.zero_le _)
    have bmD:=xN blD
    have q3:=cI (166666<(S9:Int))
    have kdA:=ue (d:=d) (hx.has aD o!) o! (aD _ _ hG) aK
    have q4:=cI (50000<((List.length (bf A):Nat):Int))
    have u5:=rP 9 true false [45] (bf A) (by first | omega | (simp;omega))
    have JG:=jw (d:=d+27) (hy.has aD o!) aK (Nat.zero_le _)
    rw[←L1] at JG
    have q6:io=false:=q!
    have kdD:=ue (d:=d) (hy.has aD o!) o! (aD _ _ hG) aK
    have q7:=cI (50000<((List.length (bf D):Nat):Int))
    have u8:=rP 9 false true ([45]++(bf A)) [47] (by first | omega | (simp;omega))
    have u9:=rP 9 false false (([45]++(bf A))++[47]) (bf D) (by first | omega | (simp;omega))
    have ev:=pk (d+29) uf ((AV.agg [(aj true),(aa du),(aa dx),(aa dy),(aa dz),aW,(af kH),(aj false),(aa lN),(aa lO),(aa lP),(aa lS),dG,(af lT)])::aV 40) h .ret h1 (NN aO (fun i=>(AV.ptr i 0))<|CN 3<|MM (aJ 60 0 (AV.agg (au true du dx dy dz aW kH)) aC k!)<|EE kbA<|VV (bM 3 false true .i64 (nbA:Int) 166666)<|CC<|BB q2<|CC<|BB q2<|MM (aJ 60 7 (AV.agg (au false lN lO lP lS dG lT)) aC k!)<|BB q2<|EE kbD<|BB q2<|VV (bM 3 false true .i64 (S9:Int) 166666)<|VV (aL (a:=some (aj true)) (b:=some (aj (decide (166666<(S9:Int))))) q2)<|BB q3<|CC<|MM (aJ 60 0 (AV.agg (au true du dx dy dz aW kH)) aC k!)<|EE kdA<|CN 3<|VV (bM 3 false true .i64 ((List.length (bf A):Nat):Int) 50000)<|BB q4<|CN 2<|MM (aJ 4 0 (aj true) aC k!)<|TT<|CC<|VV u5<|CN 2<|MM (aJ 60 7 (AV.agg (au false lN lO lP lS dG lT)) aC k!)<|EE JG<|BB q6<|CC<|MM (aJ 60 7 (AV.agg (au false lN lO lP lS dG lT)) aC k!)<|EE kdD<|CN 3<|VV (bM 3 false true .i64 ((List.length (bf D):Nat):Int) 50000)<|BB q7<|CC<|VV u8<|CC<|VV u9<|CN 2<|ZZ) k!
    exact ai rfl (az Tryz.func24 LU k! (.inr rfl) ev k!) aD rfl
   | false=>
    obtain ⟨h1,aO,aK,bm,aC,ck⟩:=de aw (ar.cells [(aj false),(aa du),(aa dx),(aa dy),(aa dz),aW,(af kH),(aj false),(aa lN),(aa lO),(aa lP),(aa lS),dG,(af lT)] 66 false)
    have aD:Has h h1:=ck
    obtain ⟨nbA,kbA,blA⟩:=iR (d:=d+26) (hx.has aD o!) (bH _) o! aK (Nat.zero_le _)
    have bmA:=xN blA
    have q2:=cI (166666<(nbA:Int))
    obtain ⟨S9,kbD,blD⟩:=iR (d:=d+26) (hy.has aD o!) (bH _) o! aK (Nat.zero_le _)
    have bmD:=xN blD
    have q3:=cI (166666<(S9:Int))
    have kdA:=ue (d:=d) (hx.has aD o!) o! (aD _ _ hG) aK
    have q4:=cI (50000<((List.length (bf A):Nat):Int))
    have JG:=jw (d:=d+27) (hy.has aD o!) aK (Nat.zero_le _)
    rw[←L1] at JG
    have q5:io=false:=q!
    have kdD:=ue (d:=d) (hy.has aD o!) o! (aD _ _ hG) aK
    have q6:=cI (50000<((List.length (bf D):Nat):Int))
    have u7:=rP 9 false true (bf A) [47] (by first | omega | (simp;omega))
    have u8:=rP 9 false false ((bf A)++[47]) (bf D) (by first | omega | (simp;omega))
    have ev:=pk (d+29) uf ((AV.agg [(aj false),(aa du),(aa dx),(aa dy),(aa dz),aW,(af kH),(aj false),(aa lN),(aa lO),(aa lP),(aa lS),dG,(af lT)])::aV 40) h .ret h1 (NN aO (fun i=>(AV.ptr i 0))<|CN 3<|MM (aJ 60 0 (AV.agg (au false du dx dy dz aW kH)) aC k!)<|EE kbA<|VV (bM 3 false true .i64 (nbA:Int) 166666)<|CC<|BB q2<|CC<|BB q2<|MM (aJ 60 7 (AV.agg (au false lN lO lP lS dG lT)) aC k!)<|BB q2<|EE kbD<|BB q2<|VV (bM 3 false true .i64 (S9:Int) 166666)<|VV (aL (a:=some (aj true)) (b:=some (aj (decide (166666<(S9:Int))))) q2)<|BB q3<|CC<|MM (aJ 60 0 (AV.agg (au false du dx dy dz aW kH)) aC k!)<|EE kdA<|CN 3<|VV (bM 3 false true .i64 ((List.length (bf A):Nat):Int) 50000)<|BB q4<|CN 2<|MM (aJ 4 0 (aj false) aC k!)<|FF<|CC<|MM (aJ 60 7 (AV.agg (au false lN lO lP lS dG lT)) aC k!)<|EE JG<|BB q5<|CC<|MM (aJ 60 7 (AV.agg (au false lN lO lP lS dG lT)) aC k!)<|EE kdD<|CN 3<|VV (bM 3 false true .i64 ((List.length (bf D):Nat):Int) 50000)<|BB q6<|CC<|VV u7<|CC<|VV u8<|CN 2<|ZZ) k!
    exact ai rfl (az Tryz.func24 LU k! (.inr rfl) ev k!) aD rfl
end Go.Proofs.aF
