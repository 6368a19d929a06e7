import Derived.Test.YtjbgioidmaofiaaGreatDoorW0
import Derived.Test.YtjbgioidmaofiaaGreatDoorA7
import Derived.Test.YtjbgioidmaofiaaGreatDoorW4
namespace Go.Proofs.aA
open Go.Proofs Ab
noncomputable section
set_option maxRecDepth 100000
set_option maxHeartbeats 4000000
set_option linter.unusedVariables false
set_option linter.unusedSimpArgs false
def gF (z w:AV):Prop:=∀k,bI z k∨bI w k
theorem bI.nil (k:Nat):bI .aj k:=fun _ _ _ _ e=>by cases e
theorem gF.nil (w:AV):gF .aj w:=fun k=> .inl (bI.nil k)
theorem gF.symm {z w:AV} (a:gF z w):gF w z:=fun k=>(a k).symm
theorem bI.sl {p o n c k:Nat} {b:Bool} (h:p≠k):bI (.slice p o n c b) k:=fun o' n' c' b' e=>h (AV.slice.inj e).1
section
variable {e:TypeId} {g h h':ag} {z z' w:AV} {L M:List AV}
theorem b_.Nw (y:Tidy h) (o:b_ e g h z L) {k:Nat} (hk:h.nx≤k):bI z k:=by
 rcases o with ⟨rfl,_⟩ | ⟨_,p,op,rfl,_,hg⟩
 · exact bI.nil k
 · have:=y _ _ hg
   exact bI.sl o!
theorem b_.IZ (o:b_ e g h z L) {k:Nat} (hk:k<g.nx):bI z k:=by
 rcases o with ⟨rfl,_⟩ | ⟨_,p,op,rfl,hp,hg⟩
 · exact bI.nil k
 · exact bI.sl o!
theorem b_.n6 (o:b_ e g h w L) (ap:gF z w) (kp:∀i x,bI z i→h.get i=some x→h'.get i=some x):b_ e g h' w L:=by
 rcases o with ⟨rfl,e0⟩ | ⟨hn,p,op,rfl,hp,hg⟩
 · exact .inl ⟨rfl,e0⟩
 · exact .inr ⟨hn,p,op,rfl,hp,kp _ _ ((ap p).resolve_right fun q=>q _ _ _ _ rfl) hg⟩
theorem b_.Je {b:Nat} {C:aw} (o:b_ e g h z L) (c:jS h h' b C) (n:bI z b):b_ e g h' z L:=by
 rcases o with ⟨rfl,e0⟩ | ⟨hn,p,op,rfl,hp,hg⟩
 · exact .inl ⟨rfl,e0⟩
 · exact .inr ⟨hn,p,op,rfl,hp,c.2.2 _ _ (fun q=>n 0 _ _ op (by subst q;rfl)) hg⟩
theorem b_.scalar (o:b_ e g h z L):AV.scalar z=true:=by
 rcases o with ⟨rfl,_⟩ | ⟨_,p,op,rfl,_,_⟩<;>rfl
theorem b_.kept {b:Nat} (o:b_ e g h z L) (c:Kept b h h') (n:bI z b):b_ e g h' z L:=by
 rcases o with ⟨rfl,e0⟩ | ⟨hn,p,op,rfl,hp,hg⟩
 · exact .inl ⟨rfl,e0⟩
 · exact .inr ⟨hn,p,op,rfl,hp,c _ _ (fun q=>n 0 _ _ op (by subst q;rfl)) hg⟩
theorem b_.apart (ap:gF z w) (y:Tidy h) (o:b_ e g h w L) (np:∀k,k<h.nx→bI z k→bI z' k):gF z' w:=fun k=>by
 by_cases hk:k<h.nx
 · exact (ap k).imp (np k hk) id
 · exact .inr (o.Nw y o!)
theorem b_.same {L':List AV} (o:b_ e g h z L) (o':b_ e g h' z L') (a:Has h h'):L'=L:=by
 rcases o with ⟨rfl,e0⟩ | ⟨hn,p,op,rfl,hp,hg⟩<;>rcases o' with ⟨e1,e2⟩ | ⟨Vc,p',op',e1,UL,hg'⟩
 · rw[e0,e2]
 · cases e1
 · cases e1
 · have q:=(AV.slice.inj e1).1
   subst q
   have:=a _ _ hg
   rw[hg'] at this
   simpa using this
theorem b_.FA {s xt:TypeId} {xd:TypeDesc} {tys:Array TypeId} {bytes:Nat} {z0 x:AV} (y:Tidy h) (hle:g.nx≤h.nx) (o:b_ e g h z L) (t0:tys[0]? =some s) (t1:tys[1]? =some xt) (hs:env.P.underlying s=some (.slice e)) (hx:env.P.underlying xt=some xd) (hi:iS xd=false) (B9:bh env e=some 1) (hb:dj env e=some bytes) (nV:cO env e=some z0) (hz:z0.cells.length=1) (h8:bytes≤63) (hlen:jU x=some M.length) (hf:cP h 1 M.length x=some M) (mD:M.all AV.scalar=true) (hl:L.length+M.length≤1073741824):
 ∃z' h',bp env h tys z x=some (z',h')∧Tidy h'∧h.nx≤h'.nx∧b_ e g h' z' (L++M)∧(∀i w,bI z i→h.get i=some w→h'.get i=some w)∧(∀k,k<h.nx→bI z k→bI z' k):=by
 by_cases hm:M=[]
 · subst hm
   rcases o with ⟨rfl,rfl⟩ | ⟨hn,p,op,rfl,hp,hg⟩
   · refine ⟨.aj,h,?_,y,Nat.le_refl _,.inl ⟨rfl,rfl⟩,fun _ _ _ q=>q,fun _ _ q=>q⟩
     simp only[List.length_nil] at hlen hf
     simp only[bp,t0,t1,hs,hx,hi,B9,hb,hlen,hf,nV,hz,mD,if_true,if_false,and_self,List.length_nil,Bool.false_eq_true,Nat.zero_mul]
   · have Rf:∀i,(h.put p (some (.cells L e false))).get i=h.get i:=fun i=>by
      by_cases q:i=p
      · subst q;rw[ag.bu,hg]
      · rw[ag.aI (Ne.symm q)]
     refine ⟨_,h.put p (some (.cells L e false)),?_,fun i x q=>y i x (by rw[←Rf];exact q),Nat.le_refl _,.inr ⟨by simpa using hn,p,op,by rw[List.append_nil],hp,by rw[Rf,List.append_nil];exact hg⟩,fun i w _ q=>by rw[Rf];exact q,fun _ _ q=>q⟩
     simp only[List.length_nil] at hlen hf
     simp only[bp,t0,t1,hs,hx,hi,B9,hb,hlen,hf,nV,hz,mD,hg,if_true,if_false,and_self,List.length_nil,Bool.false_eq_true,Nat.zero_mul,Nat.add_zero,Nat.zero_add,Nat.le_refl,Nat.mul_one,setFrom]
 · rcases o with ⟨rfl,rfl⟩ | ⟨hn,p,op,rfl,hp,hg⟩
   · obtain ⟨h',e1,n⟩:=oI (h:=h) t0 t1 hs hx hi B9 hb nV hz h8 hlen hf mD hm (by simpa using hl)
     have:=m4 n
     exact ⟨_,h',e1,gr y n,by omega,.inr ⟨by simpa using hm,h.nx,true,by simp,hle,jZ n⟩,fun i w _ q=>js y n q,fun k hk _=>bI.sl o!⟩
   · obtain ⟨h',e1,y1,z1,k1,g1⟩:=oJ (op:=op) y t0 t1 hs hx hi B9 hb nV hz h8 hlen hf mD rfl hm hl hg
     exact ⟨_,h',e1,y1,by omega,.inr ⟨by simp [hn],h.nx,true,by rw[List.length_append],hle,g1⟩,fun i w q=>k1 i w (fun e=>q 0 L.length L.length op (by subst e;rfl)),fun k hk _=>bI.sl o!⟩
end
section
variable {α:Type} [au α] {h0 h h':ag} {z z' w:AV} {l m:List α}
theorem ay.Xn {s xt:TypeId} {tys:Array TypeId} {bytes N:Nat} {z0 x:AV} (y:Tidy h) (y0:Tidy h0) (a:Has h0 h) (hle:h0.nx≤h.nx) (o:ay h0 h z l) (hlen:jU x=some m.length) (hf:cP h (au.n α) m.length x=some (m.flatMap au.c)) (mD:(m.flatMap au.c).all AV.scalar=true) (hl:l.length+m.length≤N)
 (t0:tys[0]? =some s) (t1:tys[1]? =some xt) (hs:env.P.underlying s=some (.slice (au.e α))) (hx:env.P.underlying xt=some (.slice (au.e α))) (hb:dj env (au.e α)=some bytes) (nV:cO env (au.e α)=some z0) (hz:z0.cells.length=au.n α) (Tc:∀k,k≤N→(4*k+4096)*(bytes+1)≤1099511627776):
 ∃z' h',bp env h tys z x=some (z',h')∧Tidy h'∧h.nx≤h'.nx∧Has h0 h'∧ay h0 h' z' (l++m)∧(∀i w,bI z i→h.get i=some w→h'.get i=some w)∧(∀k,k<h.nx→bI z k→bI z' k):=by
 have tg:=ca au.len m
 have hi:iS (.slice (au.e α))=false:=rfl
 have rR:∀{p:Nat} {ob:aw},h.get p=some ob→Tidy (h.put p (some ob))∧Has h0 (h.put p (some ob))∧(∀i w,h.get i=some w→(h.put p (some ob)).get i=some w):=fun {p ob} g=>by
  have hg:∀i,(h.put p (some ob)).get i=h.get i:=fun i=>by
   by_cases e:i=p
   · subst e;rw[ag.bu,g]
   · rw[ag.aI (Ne.symm e)]
  exact ⟨fun i w q=>y i w (by rw[←hg];exact q),fun i w q=>by rw[hg];exact a i w q,fun i w q=>by rw[hg];exact q⟩
 have LN:m≠ []→∃h',h.new (.cells (m.flatMap au.c) (au.e α) false)=some h'∧Tidy h'∧h.nx≤h'.nx∧Has h0 h'∧ay h0 h' (.slice h.nx 0 m.length m.length true) m∧∀i w,h.get i=some w→h'.get i=some w:=fun hm=>by
  obtain ⟨h',n⟩:=oE (h:=h) (.cells (m.flatMap au.c) (au.e α) false)
  have:=m4 n
  exact ⟨h',n,gr y n,by omega,a.trans (pM y n),.inr ⟨hm,h.nx,true,rfl,hle,jZ n⟩,fun i w g=>js y n g⟩
 rcases o with ⟨rfl | ⟨p,rfl,hp,hg⟩,rfl⟩ | ⟨hn,p,op,rfl,hp,hg⟩
 · rw[List.nil_append]
   by_cases hm:m=[]
   · subst hm
     simp only[List.length_nil,List.flatMap_nil,Nat.zero_mul] at hlen hf mD tg
     refine ⟨.aj,h,?_,y,Nat.le_refl _,a,.inl ⟨.inl rfl,rfl⟩,fun _ _ _ g=>g,fun _ _ q=>q⟩
     simp only[bp,t0,t1,hs,hx,hi,au.size,hb,hlen,hf,nV,hz,mD,tg,if_true,if_false,and_self,List.length_nil,Bool.false_eq_true,Nat.zero_mul]
   · obtain ⟨h',n,q1,q2,q3,q4,q5⟩:=LN hm
     have Ig:¬m.length=0:=fun e=>hm (List.length_eq_zero_iff.1 e)
     refine ⟨_,h',?_,q1,q2,q3,q4,fun i w _ g=>q5 i w g,fun k hk _=>bI.sl o!⟩
     simp only[bp,t0,t1,hs,hx,hi,au.size,hb,hlen,hf,nV,hz,mD,tg,Ig,Tc m.length o!,n,if_true,if_false,and_self,Bool.false_eq_true]
 · rw[List.nil_append]
   by_cases hm:m=[]
   · subst hm
     simp only[List.length_nil,List.flatMap_nil,Nat.zero_mul] at hlen hf mD tg
     obtain ⟨q1,q2,q3⟩:=rR hg
     refine ⟨_,_,?_,q1,Nat.le_refl _,q2,.inl ⟨.inr ⟨p,rfl,hp,q3 _ _ hg⟩,rfl⟩,fun i w _ g=>q3 i w g,fun _ _ q=>q⟩
     simp only[bp,t0,t1,hs,hx,hi,au.size,hb,hlen,hf,nV,hz,mD,tg,hg,if_true,if_false,and_self,List.length_nil,Bool.false_eq_true,Nat.zero_mul,Nat.add_zero,Nat.le_refl,List.flatMap_nil,setFrom]
   · obtain ⟨h',n,q1,q2,q3,q4,q5⟩:=LN hm
     have Ig:¬m.length≤0:=fun e=>hm (List.length_eq_zero_iff.1 o!)
     refine ⟨_,h',?_,q1,q2,q3,q4,fun i w _ g=>q5 i w g,fun k hk _=>bI.sl o!⟩
     simp only[bp,t0,t1,hs,hx,hi,au.size,hb,hlen,hf,nV,hz,mD,tg,hg,Ig,if_true,if_false,and_self,Bool.false_eq_true,Nat.zero_mul,Nat.add_zero,Nat.zero_add,List.length_nil,Nat.le_refl]
     rw[if_pos ⟨Tc m.length o!,trivial,fun e=>e.elim⟩]
     simp only[List.drop_nil,List.take_nil,List.nil_append,n]
 · have hlp:0<l.length:=List.length_pos_iff.2 hn
   have hpx:=y _ _ hg
   have AF:=ca au.len l
   by_cases hm:m=[]
   · subst hm
     simp only[List.length_nil,List.flatMap_nil,Nat.zero_mul] at hlen hf mD tg
     obtain ⟨q1,q2,q3⟩:=rR hg
     rw[List.append_nil]
     refine ⟨_,_,?_,q1,Nat.le_refl _,q2,.inr ⟨hn,p,op,rfl,hp,q3 _ _ hg⟩,fun i w _ g=>q3 i w g,fun _ _ q=>q⟩
     simp only[bp,t0,t1,hs,hx,hi,au.size,hb,hlen,hf,nV,hz,mD,tg,hg,AF,if_true,if_false,and_self,List.length_nil,Bool.false_eq_true,Nat.zero_mul,Nat.add_zero,Nat.zero_add,Nat.le_refl,List.flatMap_nil,setFrom]
   · have Ve:0<m.length:=List.length_pos_iff.2 hm
     have y2:Tidy (if op then h.put p none else h):=by
      cases op with
      | false=>exact y
      | true=>
        intro i x g
        show i<h.nx
        by_cases hi:i=p
        · subst hi;exact hpx
        · rw[if_pos rfl,ag.aI (Ne.symm hi)] at g;exact y i x g
     have n2:(if op then h.put p none else h).nx=h.nx:=by cases op<;>rfl
     have k2:∀i w,i≠p→h.get i=some w→(if op then h.put p none else h).get i=some w:=fun i w hi g=>by
      cases op with
      | false=>exact g
      | true=>rw[if_pos rfl,ag.aI (Ne.symm hi)];exact g
     obtain ⟨h',n⟩:=oE (h:=if op then h.put p none else h) (.cells (l.flatMap au.c++m.flatMap au.c) (au.e α) false)
     have hk:∀i w,i≠p→h.get i=some w→h'.get i=some w:=fun i w hi g=>js y2 n (k2 i w hi g)
     have hc:¬l.length+m.length≤l.length:=by omega
     refine ⟨.slice h.nx 0 (l.length+m.length) (l.length+m.length) true,h',?_,gr y2 n,by rw[m4 n,n2];omega,fun i w g=>?_,.inr ⟨by simp [hn],h.nx,true,by rw[List.length_append],hle,by rw[List.flatMap_append,←n2];exact jZ n⟩,fun i w q g=>hk i w (fun e=>q 0 l.length l.length op (by subst e;rfl)) g,fun k hk _=>bI.sl o!⟩
     · simp only[bp,t0,t1,hs,hx,hi,au.size,hb,hlen,hf,nV,hz,mD,tg,hg,hc,if_true,if_false,and_self,Bool.false_eq_true]
       rw[if_pos ⟨Tc _ hl,by rw[AF];omega,fun _=>⟨trivial,by rw[AF];omega,trivial⟩⟩]
       rw[List.drop_zero,List.take_of_length_le (by rw[AF];exact Nat.le_refl _),n]
     · have:=y0 _ _ g
       exact hk i w o! (a i w g)
theorem ay.LP {s xt:TypeId} {tys:Array TypeId} {bytes:Nat} {z0 x:AV} (y:Tidy h) (y0:Tidy h0) (a:Has h0 h) (hle:h0.nx≤h.nx) (o:ay h0 h z l) (hlen:jU x=some m.length) (hf:cP h (au.n α) m.length x=some (m.flatMap au.c)) (mD:(m.flatMap au.c).all AV.scalar=true) (hl:l.length+m.length≤1000000000)
 (t0:tys[0]? =some s) (t1:tys[1]? =some xt) (hs:env.P.underlying s=some (.slice (au.e α))) (hx:env.P.underlying xt=some (.slice (au.e α))) (hb:dj env (au.e α)=some bytes) (nV:cO env (au.e α)=some z0) (hz:z0.cells.length=au.n α) (h8:bytes≤255):
 ∃z' h',bp env h tys z x=some (z',h')∧Tidy h'∧h.nx≤h'.nx∧Has h0 h'∧ay h0 h' z' (l++m)∧(∀i w,bI z i→h.get i=some w→h'.get i=some w)∧(∀k,k<h.nx→bI z k→bI z' k):=
 ay.Xn y y0 a hle o hlen hf mD hl t0 t1 hs hx hb nV hz fun k hk=>Nat.le_trans (Nat.mul_le_mul (show 4*k+4096≤4294967296 by omega) (show bytes+1≤256 by omega)) (by decide)
theorem ay.Je {b:Nat} {C:aw} (o:ay h0 h z l) (c:jS h h' b C) (n:bI z b):ay h0 h' z l:=by
 rcases o with ⟨rfl | ⟨p,rfl,h1,h2⟩,rfl⟩ | ⟨hn,p,op,rfl,hp,hg⟩
 · exact .inl ⟨.inl rfl,rfl⟩
 · exact .inl ⟨.inr ⟨p,rfl,h1,c.2.2 _ _ (fun q=>n 0 _ _ false (by subst q;rfl)) h2⟩,rfl⟩
 · exact .inr ⟨hn,p,op,rfl,hp,c.2.2 _ _ (fun q=>n 0 _ _ op (by subst q;rfl)) hg⟩
theorem ay.Nw (y:Tidy h) (o:ay h0 h z l) {k:Nat} (hk:h.nx≤k):bI z k:=by
 rcases o with ⟨rfl | ⟨p,rfl,h1,h2⟩,rfl⟩ | ⟨_,p,op,rfl,_,hg⟩
 · exact bI.nil k
 · have:=y _ _ h2;exact bI.sl o!
 · have:=y _ _ hg;exact bI.sl o!
theorem ay.n6 (o:ay h0 h w l) (ap:gF z w) (kp:∀i x,bI z i→h.get i=some x→h'.get i=some x):ay h0 h' w l:=by
 rcases o with ⟨rfl | ⟨p,rfl,h1,h2⟩,rfl⟩ | ⟨hn,p,op,rfl,hp,hg⟩
 · exact .inl ⟨.inl rfl,rfl⟩
 · exact .inl ⟨.inr ⟨p,rfl,h1,kp _ _ ((ap p).resolve_right fun q=>q _ _ _ _ rfl) h2⟩,rfl⟩
 · exact .inr ⟨hn,p,op,rfl,hp,kp _ _ ((ap p).resolve_right fun q=>q _ _ _ _ rfl) hg⟩
theorem ay.apart (ap:gF z w) (y:Tidy h) (o:ay h0 h w l) (np:∀k,k<h.nx→bI z k→bI z' k):gF z' w:=fun k=>by
 by_cases hk:k<h.nx
 · exact (ap k).imp (np k hk) id
 · exact .inr (o.Nw y o!)
end
section
variable {α:Type} [au α] {h0 h h':ag} {z z' w:AV} {l m:List α}
theorem ay.gT {n:Nat} (o:ay h0 h z l) (v:AV.within h0.nx (n+1) z=true):ay h0 h0 z l:=by
 rcases o with ⟨rfl | ⟨p,rfl,h1,h2⟩,rfl⟩ | ⟨hn,p,op,rfl,hp,hg⟩
 · exact .inl ⟨.inl rfl,rfl⟩
 · have:=of_decide_eq_true (show decide (p<h0.nx)=true from v);omega
 · have:=of_decide_eq_true (show decide (p<h0.nx)=true from v);omega
theorem bm {nx k:Nat} {cs:List AV} (h:AV.within nx (k+1) (.tuple cs)=true) {x:AV} (hx:x∈cs):AV.within nx k x=true:=List.all_eq_true.1 h x hx
end
theorem aaV {t el:TypeId} {ts:List AV} {x y:Operand} {u v:AV} (ht:env.P.underlying t=some (.slice el)) (hs:bh env el=some 1) (hz:cO env el=some .aj) (h1:cx env ts x=some u) (h2:cx env ts y=some v) (hu:AV.scalar u=true) (hv:AV.scalar v=true):
 cq env ts (.buildSlice t 2 #[(0,x),(1,y)])=some (.cells [u,v] el false,fun i=> .slice i 0 2 2 false):=by
 have cu:=rS hu
 have cv:=rS hv
 have cz:AV.cells .aj=[.aj]:=rfl
 simp [cq,ht,hs,hz,fZ,h1,h2,mb,cu,cv,cz,dD,setFrom]
def iL {σ ζ:Type} (call:aB) (b:Code) (s:St) (ex:gR) (hh:ag) (tn:σ→ζ→(Nat→AV)→List AV) (Qn:σ→ζ→ag→Prop) (v:σ):Prop:=
 ∃z y hk,Ev env call (.loop b) s ex ⟨tn v z y,hk,[],.no⟩∧Tidy hk∧hh.nx≤hk.nx∧Qn v z hk
section
variable {σ ζ:Type} {call:aB} {b:Code} {s:St} {ex:gR} {hh hk:ag} {tn:σ→ζ→(Nat→AV)→List AV} {Qn:σ→ζ→ag→Prop}
theorem iL.out {i:Nat} {L:List AV} {o:σ} (v:σ) (z:ζ) (e:o=v) (ev:Ev env call b s (.exit i) ⟨L,hk,[],.no⟩) (y1:Tidy hk) (n1:hh.nx≤hk.nx) (q:Qn v z hk) (hl:L=tn v z fun k=>L.getD k AV.undef):iL call b s (.exit i) hh tn Qn o:=by
 subst e
 obtain ⟨y,x⟩:=mq (tmpl:=tn o z) (Ev.out ev) hl
 exact ⟨z,y,hk,x,y1,n1,q⟩
theorem iL.round {L:List AV} {o o':σ} (e:o=o') (ev:Ev env call b s .normal ⟨L,hk,[],.no⟩) (n1:hh.nx≤hk.nx) (tin:(Nat→AV)→List AV) (hl:L=tin fun k=>L.getD k AV.undef) (ih:∀x,iL call b ⟨tin x,hk,[],.no⟩ ex hk tn Qn o'):iL call b s ex hh tn Qn o:=by
 subst e
 have q:=ih fun k=>L.getD k AV.undef
 rw[←hl] at q
 obtain ⟨z,y,h2,x,y1,n2,g⟩:=q
 exact ⟨z,y,h2,Ev.loop ev x,y1,Nat.le_trans n1 n2,g⟩
end
abbrev lk:=List (Fact×Int)
def ig:Nat→lk→List dY
 | _,[]=> []
 | n,(k,v)::r=>{key:= .agg (Fact.c k),val:= .int .i64 v,born:=n}::ig (n+1) r
def dM:Nat→lk→Fact→Option (Nat×Int)
 | _,[],_=>none
 | i,(k,v)::r,f=>bif Fact.eq f k then some (i,v) else dM (i+1) r f
def eK (M:lk) (f:Fact):Int:=match dM 0 M f with | some (_,v)=>v | none=>0
def qh (M:lk) (f:Fact):Int:=match dM 0 M f with | some (j,_)=>((j:Nat):Int) | none=>((M.length:Nat):Int)
def qV:lk→Fact→lk
 | [],f=> [(f,0)]
 | (k,v)::r,f=>bif Fact.eq f k then (k,v)::r else (k,v)::qV r f
def nU:lk→Fact→Int→lk
 | [],f,x=> [(f,x)]
 | (k,v)::r,f,x=>bif Fact.eq f k then (k,x)::r else (k,v)::nU r f x
theorem Fact.Jf:∀(x y:Fact),Fact.eq x y=true→hJ (Fact.c x) (Fact.c y)=true:=fun x y h=>by
 simp only[Fact.eq,Bool.and_eq_true,beq_iff_eq] at h
 obtain ⟨⟨⟨⟨h1,h2⟩,h3⟩,h4⟩,h5⟩:=h
 simp [Fact.c,hJ,h1,h2,h3,h4,h5]
theorem tv (f:Fact):∀(M:lk) (n i:Nat),findD env 40 (.agg (Fact.c f)) (ig n M) i=some ((dM i M f).map fun p=>(p.1,.int .i64 p.2))
 | [],n,i=>rfl
 | (k,v)::r,n,i=>by
   show (match jA env 16 40 (.agg (Fact.c f)) (.agg (Fact.c k)) with
    | some true=>(if hJ (Fact.c f) (Fact.c k) then some (some (i,AV.int .i64 v)) else none)
    | some false=>findD env 40 (.agg (Fact.c f)) (ig (n+1) r) (i+1)
    | none=>none)=_
   rw[Fact.deep,dM]
   cases e:Fact.eq f k with
   | true=>simp only[ah,Option.map_some,Fact.Jf f k e,if_true]
   | false=>simp only[ae];exact tv f r (n+1) (i+1)
theorem aaW (f:Fact):er (env.P.underlying 40) (.agg (Fact.c f))=false:=by kernel_rfl
theorem Xo (f:Fact):fh env (env.P.underlying 40) (.agg (Fact.c f))=true:=by kernel_rfl
theorem Xp:env.P.underlying 108=some (.map 40 3):=by kernel_rfl
theorem z3:cO env 3=some (.int .i64 0):=by kernel_rfl
section
variable {h:ag} {b c:Nat} {M:lk}
theorem pf (f:Fact) (hg:h.get b=some (.map (ig 0 M) c)):nE env h 108 (some (.map b)) (some (.agg (Fact.c f))) false=some (.int .i64 (eK M f)):=by
 simp only[nE,Xp,aaW,Xo,hg,tv,z3,Bool.false_eq_true,if_false,if_true]
 unfold eK
 cases dM 0 M f with
 | none=>rfl
 | some p=>rfl
theorem Eb (f:Fact):∀(M:lk) (n i j:Nat) (v:Int),dM i M f=some (j,v)→i≤j∧∃e,(ig n M)[j - i]? =some e∧e.born=n+(j - i)
 | [],n,i,j,v,h=>by cases h
 | (k,w)::r,n,i,j,v,h=>by
   rw[dM] at h
   cases e:Fact.eq f k with
   | true=>
     rw[e,ah] at h
     cases h
     exact ⟨Nat.le_refl _,_,by rw[Nat.sub_self];rfl,by simp⟩
   | false=>
     rw[e,ae] at h
     obtain ⟨h1,x,h2,h3⟩:=Eb f r (n+1) (i+1) j v h
     refine ⟨by omega,x,?_,by omega⟩
     rw[show j - i=(j -(i+1))+1 by omega,ig];exact h2
theorem tw (f:Fact):∀(M:lk) (i:Nat) (p:Nat×Int),dM i M f=some p→qV M f=M
 | [],i,p,h=>by cases h
 | (k,w)::r,i,p,h=>by
   rw[dM] at h;rw[qV]
   cases e:Fact.eq f k with
   | true=>rfl
   | false=>rw[e,ae] at h;rw[ae,tw f r (i+1) p h]
theorem tx (f:Fact):∀(M:lk) (i:Nat),dM i M f=none→qV M f=M++[(f,0)]
 | [],i,h=>rfl
 | (k,w)::r,i,h=>by
   rw[dM] at h;rw[qV]
   cases e:Fact.eq f k with
   | true=>rw[e,ah] at h;cases h
   | false=>rw[e,ae] at h;rw[ae,tx f r (i+1) h];rfl
theorem Ec:∀(M N:lk) (n:Nat),ig n (M++N)=ig n M++ig (n+M.length) N
 | [],N,n=>rfl
 | (k,v)::r,N,n=>by
   rw[List.cons_append,ig,ig,Ec r N (n+1),List.length_cons,show n+1+r.length=n+(r.length+1) by omega];rfl
theorem xW {p:Nat} {x o:aw} (y:Tidy h) (g:h.get p=some x):jS h (h.put p (some o)) p o∧(h.put p (some o)).nx=h.nx:=
 ⟨bC y g,rfl⟩
theorem HX (f:Fact) (y:Tidy h) (hg:h.get b=some (.map (ig 0 M) M.length)):
 ∃h',j5 env h 108 (.map b) (.agg (Fact.c f))=some (.tuple [.int .i64 (eK M f),.int .i64 (qh M f)],h')∧jS h h' b (.map (ig 0 (qV M f)) (qV M f).length)∧h'.nx=h.nx:=by
 simp only[j5,Xp,hg,Xo,tv,z3,if_true]
 cases e:dM 0 M f with
 | none=>
   refine ⟨_,?_,xW y hg⟩
   simp only[Option.map_none,eK,qh,e]
   rw[tx f M 0 e,Ec,List.length_append]
   simp [ig]
 | some p=>
   obtain ⟨j,v⟩:=p
   obtain ⟨_,x,h2,h3⟩:=Eb f M 0 0 j v e
   rw[Nat.sub_zero] at h2
   refine ⟨_,?_,xW y hg⟩
   simp only[Option.map_some,eK,qh,e,h2]
   rw[tw f M 0 _ e,h3]
   simp
theorem BN:∀(M:lk) (n j:Nat),j<M.length→(ig n M).findIdx? (fun e=>(e.born:Int)==((n+j:Nat):Int))=some j
 | [],n,j,h=>by simp at h
 | (k,v)::r,n,0,h=>by simp [ig,List.findIdx?_cons]
 | (k,v)::r,n,j+1,h=>by
   have ih:=BN r (n+1) j (by simpa using h)
   rw[ig,List.findIdx?_cons]
   have:((n:Int)==((n+(j+1):Nat):Int))=false:=by simp;omega
   simp only[this,Bool.false_eq_true,if_false]
   rw[show n+(j+1)=n+1+j by omega,ih];rfl
theorem xX (f:Fact):∀(M:lk) (i j:Nat) (v:Int),dM i M f=some (j,v)→i≤j∧j<i+M.length
 | [],i,j,v,h=>by cases h
 | (k,w)::r,i,j,v,h=>by
   rw[dM] at h
   cases e:Fact.eq f k with
   | true=>rw[e,ah] at h;cases h;simp
   | false=>
     rw[e,ae] at h
     have:=xX f r (i+1) j v h
     simp;omega
theorem zL (f:Fact) (x:Int):∀(M:lk) (n i j:Nat) (v:Int),dM i M f=some (j,v)→b8 (ig n M) (j - i) (.int .i64 x)=ig n (nU M f x)
 | [],n,i,j,v,h=>by cases h
 | (k,w)::r,n,i,j,v,h=>by
   rw[dM] at h;rw[nU]
   cases e:Fact.eq f k with
   | true=>rw[e,ah] at h;cases h;rw[Nat.sub_self,ah];rfl
   | false=>
     rw[e,ae] at h
     have h1:=xX f r (i+1) j v h
     rw[ae,show j - i=(j -(i+1))+1 by omega,ig,ig,b8,zL f x r (n+1) (i+1) j v h]
theorem zM (f:Fact) (x:Int):∀(M:lk) (n i:Nat),dM i M f=none→b8 (ig n (M++[(f,0)])) M.length (.int .i64 x)=ig n (nU M f x)
 | [],n,i,h=>rfl
 | (k,w)::r,n,i,h=>by
   rw[dM] at h;rw[nU]
   cases e:Fact.eq f k with
   | true=>rw[e,ah] at h;cases h
   | false=>
     rw[e,ae] at h
     rw[ae,List.cons_append,List.length_cons,ig,ig,b8,zM f x r (n+1) (i+1) h]
theorem xY (f:Fact) (x:Int):∀(M:lk),(nU M f x).length=(qV M f).length
 | []=>rfl
 | (k,w)::r=>by
   rw[nU,qV]
   cases Fact.eq f k with
   | true=>rfl
   | false=>simp [xY f x r]
theorem HY (f:Fact) (x:Int) (y:Tidy h) (hg:h.get b=some (.map (ig 0 (qV M f)) (qV M f).length)):
 ∃h',eY h (.map b) (.int .i64 (qh M f)) (.int .i64 x)=some h'∧jS h h' b (.map (ig 0 (nU M f x)) (nU M f x).length)∧h'.nx=h.nx:=by
 refine ⟨_,?_,xW y hg⟩
 simp only[eY,hg]
 cases e:dM 0 M f with
 | none=>
   have h1:=BN (M++[(f,0)]) 0 M.length (by simp)
   rw[Nat.zero_add] at h1
   rw[xY]
   simp only[qh,e,tx f M 0 e,h1,zM f x M 0 0 e]
 | some p=>
   obtain ⟨j,v⟩:=p
   have h0:=xX f M 0 j v e
   have h1:=BN M 0 j o!
   rw[Nat.zero_add] at h1
   have h2:=zL f x M 0 0 j v e
   rw[Nat.sub_zero] at h2
   rw[xY]
   simp only[qh,e,tw f M 0 _ e,h1,h2]
theorem xZ (f:Fact):∀(M:lk) (i:Nat),(match dM i (qV M f) f with | some (_,v)=>v | none=>(0:Int))=(match dM i M f with | some (_,v)=>v | none=>0)
 | [],i=>by
   have:Fact.eq f f=true:=by simp [Fact.eq]
   simp [qV,dM,this]
 | (k,w)::r,i=>by
   rw[qV]
   cases e:Fact.eq f k with
   | true=>rfl
   | false=>simp only[ae,dM,e];exact xZ f r (i+1)
theorem zN (f:Fact):eK (qV M f) f=eK M f:=xZ f M 0
end
def l5:Code:=(Tryz.f35.body).getD .skip
theorem Gw:Tryz.f35.body=some l5:=by kernel_rfl
def BP:Code:=(bY l5).getD 0 .skip
def BQ:Code:=(bY l5).getD 1 .skip
def bN (other:List Fact):Nat→Nat→lk→lk
 | 0,_,ct=>ct
 | eX+1,i0,ct=>bN other eX (i0+1) (nU ct (other.g i0) (IntKind.i64.wrap ((eK ct (other.g i0))+1)))
theorem qi {d:Nat} {h:ag} (bw:AV) (je:AV) (other:List Fact) (l_:List Fact) (iR:Nat) (aR:ax h bw l_) (eJ:ax h je other) (jc:l_.length≤512) (tu:other.length≤512) (bK:Tidy h) (T1:h.nx≤iR):∀(k_ i_:Nat) (ct:lk) (_:i_+k_=other.length) (x:Nat→AV) (hh:ag) (aO:Tidy hh) (aF:Has h hh) (pa:h.nx≤hh.nx) (jy:hh.get iR=some (aw.map (ig 0 ct) (List.length ct))),iL (σ:=lk) (ζ:=Unit) (cC (d)) BP ⟨(bw::rx x 1 3 (AV.aj::AV.aj::(AV.map iR)::rx x 7 5 (je::(Zn other.length)::(Zn i_)::rx x 15 37 []))),hh,[],.no⟩ (.exit 0) hh (fun r z y=>(bw::rx y 1 3 (AV.aj::AV.aj::(AV.map iR)::rx y 7 5 (je::(Zn other.length)::rx y 14 38 [])))) (fun r z hk=>Has h hk∧hk.get iR=some (aw.map (ig 0 r) (List.length r))) (bN other k_ i_ ct)
 | 0,i0,ct,nR,x,hh,aO,aF,pa,jy=>by
   have db:=aR.small
   have lg:=eJ.small
   have Nx:=aO _ _ jy
   have q1:(decide (((i0:Nat):Int)<((other.length:Nat):Int)))=false:=d!
   exact iL.out ct () rfl (pk (d) _ _ hh _ hh (VV (bx 3 false false .i64 ((i0:Nat):Int) ((other.length:Nat):Int))<|BB q1<|ZZ) k!) aO o! ⟨aF,jy⟩ k!
 | eX+1,i0,ct,nR,x,hh,aO,aF,pa,jy=>by
   have db:=aR.small
   have lg:=eJ.small
   have Nx:=aO _ _ jy
   have q1:(decide (((i0:Nat):Int)<((other.length:Nat):Int)))=true:=d!
   obtain ⟨p3,q4,o7⟩:=eJ.elem (i:=i0) o!
   have yK:bP env (some (.slice 40)) (some je) (some (Zn i0))=some (AV.ptr p3 q4):=o7
   have HQ:bH env hh 40 (AV.ptr p3 q4)=some (AV.agg [(Zi (other.g i0).time),(AV.str (other.g i0).kind),(AV.str (other.g i0).item),(AV.str (other.g i0).bl),(Zi (other.g i0).number)]):=(eJ.has aF).load o! o7
   obtain ⟨h6,r6,mr,F5,qL,jL⟩:=te aO (aw.cells [(Zi 0),(AV.str []),(AV.str []),(AV.str []),(Zi 0)] 40 false)
   have mu:Has h h6:=aF.trans jL
   have sg:Has hh h6:=jL
   obtain ⟨h7,r7,jJ,F6,jM,fN⟩:=FW (t:=40) (n:=5) (i:=hh.nx) (L:=[(Zi (other.g i0).time),(AV.str (other.g i0).kind),(AV.str (other.g i0).item),(AV.str (other.g i0).bl),(Zi (other.g i0).number)]) mr qL k! rfl rfl (by simp only[AV.cells,List.all_cons,List.all_nil,Bool.and_true,Bool.and_self,qF,m3,qG,qH,kC,wc,we,wg,wh,wi,qI])
   have hX:Has h h7:=Has.iE mu fN bK o!
   have nr:Has hh h7:=Has.iE sg fN aO o!
   obtain ⟨h8,M9,DP,Ty⟩:=HX (M:=ct) (other.g i0) jJ (fN _ _ o! (jL _ _ jy))
   have jK:=DP.1
   have iP:Has h h8:=DP.has hX bK o!
   obtain ⟨h9,T2,x7,TY⟩:=HY (M:=ct) (other.g i0) (IntKind.i64.wrap ((eK ct (other.g i0))+1)) jK DP.2.1
   have o9:=x7.1
   have ng:Has h h9:=x7.has iP bK o!
   have c10:AV.same 20 (AV.agg [(Zi (other.g i0).time),(AV.str (other.g i0).kind),(AV.str (other.g i0).item),(AV.str (other.g i0).bl),(Zi (other.g i0).number)]) (AV.agg [(Zi (other.g i0).time),(AV.str (other.g i0).kind),(AV.str (other.g i0).item),(AV.str (other.g i0).bl),(Zi (other.g i0).number)])=true:=hU 18 (jT (fun n=>aL n _ _) (jT (fun n=>aK n _) (jT (fun n=>aK n _) (jT (fun n=>aK n _) (jT (fun n=>aL n _ _) Od)))))
   have JF:=iD 3 false true i0 1 o!
   exact iL.round (by simp only[bN,ah,ae]) (pk (d) _ _ hh _ h9 (VV (bx 3 false false .i64 ((i0:Nat):Int) ((other.length:Nat):Int))<|BV q1 yK<|MM HQ<|NN r6 (fun i=>(Pt i))<|SS r7<|CC<|MM (aX 40 0 (AV.agg [(Zi (other.g i0).time),(AV.str (other.g i0).kind),(AV.str (other.g i0).item),(AV.str (other.g i0).bl),(Zi (other.g i0).number)]) jM k!)<|MM (show nE env h7 108 (some (AV.map iR)) (some (.agg (Fact.c (other.g i0)))) false=some (Zi (eK ct (other.g i0))) from pf (other.g i0) (fN _ _ o! (jL _ _ jy)))<|CC<|AA (.e (AV.tuple [(Zi (eK ct (other.g i0))),(Zi (qh ct (other.g i0)))]) h8)<|HH M9<|CC<|AA (.e AV.undef h9)<|HH (show AV.undef=AV.undef∧eY h8 (AV.map iR) (Zi (qh ct (other.g i0))) (Zi (IntKind.i64.wrap ((eK ct (other.g i0))+1)))=some h9 from ⟨rfl,T2⟩)<|HH (aX 40 0 (AV.agg [(Zi (other.g i0).time),(AV.str (other.g i0).kind),(AV.str (other.g i0).item),(AV.str (other.g i0).bl),(Zi (other.g i0).number)]) jM k!)<|HH c10<|HH (show nE env h7 108 (some (AV.map iR)) (some (.agg (Fact.c (other.g i0)))) false=some (Zi (eK ct (other.g i0))) from pf (other.g i0) (fN _ _ o! (jL _ _ jy)))<|HH (show AV.same 20 (Zi (eK ct (other.g i0))) (Zi (eK ct (other.g i0)))=true from aL 19 _ _)<|HH (show nE env h8 108 (some (AV.map iR)) (some (.agg (Fact.c (other.g i0)))) false=some (Zi (eK ct (other.g i0))) from (pf (other.g i0) DP.2.1).trans (congrArg (fun n=>some (Zi n)) (zN _)))<|HH (show AV.same 20 (Zi (eK ct (other.g i0))) (Zi (eK ct (other.g i0)))=true from aL 19 _ _)<|VV JF<|CC<|ZZ) k!) o! _ k! (fun x=>qi bw je other l_ iR aR eJ jc tu bK T1 eX (i0+1) (nU ct (other.g i0) (IntKind.i64.wrap ((eK ct (other.g i0))+1))) o! x h9 o9 ng o! x7.2.1)
def bG (l_:List Fact):Nat→Nat→List Fact→List Fact→lk→List Fact×List Fact×lk
 | 0,_,nt,eV,bO=>(nt,eV,bO)
 | I8+1,i1,nt,eV,bO=>(bif (decide (0<(eK bO (l_.g i1)))) then bG l_ I8 (i1+1) (nt++[(l_.g i1)]) eV (nU bO (l_.g i1) (IntKind.i64.wrap ((eK bO (l_.g i1)) - 1))) else bG l_ I8 (i1+1) nt (eV++[(l_.g i1)]) bO)
theorem l6 {d:Nat} {h:ag} (bw:AV) (l_:List Fact) (other:List Fact) (jP:Nat) (Ed:ax h bw l_) (I9:l_.length≤512) (I_:other.length≤512) (bK:Tidy h) (Xr:h.nx≤jP):∀(k_ i_:Nat) (nt:List Fact) (eV:List Fact) (bO:lk) (uJ:AV) (uK:AV) (_:i_+k_=l_.length) (x:Nat→AV) (hh:ag) (aO:Tidy hh) (aF:Has h hh) (pa:h.nx≤hh.nx) (nh:hh.get jP=some (aw.map (ig 0 bO) (List.length bO))) (zO:ay h hh uJ nt) (x8:∀y∈nt,au.ok hh y) (R1:nt.length≤i_) (Ee:ay h hh uK eV) (x9:∀y∈eV,au.ok hh y) (R2:eV.length≤i_) (eC:bI uJ jP) (eD:bI uK jP) (fA:gF uK uJ),iL (σ:=List Fact×List Fact×lk) (ζ:=AV×AV) (cC (d)) BQ ⟨(rx x 0 4 (uJ::uK::(AV.map jP)::rx x 7 18 (bw::(Zn l_.length)::(Zn i_)::rx x 28 24 []))),hh,[],.no⟩ (.exit 2) hh (fun r z y=>(rx y 0 4 (z.1::z.2::(AV.map jP)::rx y 7 18 (bw::(Zn l_.length)::rx y 27 25 [])))) (fun r z hk=>Has h hk∧hk.get jP=some (aw.map (ig 0 r.2.2) (List.length r.2.2))∧ay h hk z.1 r.1∧(∀y∈r.1,au.ok hk y)∧r.1.length≤l_.length∧ay h hk z.2 r.2.1∧(∀y∈r.2.1,au.ok hk y)∧r.2.1.length≤l_.length∧bI z.1 jP∧bI z.2 jP∧gF z.2 z.1) (bG l_ k_ i_ nt eV bO)
 | 0,i1,nt,eV,bO,uJ,uK,nR,x,hh,aO,aF,pa,nh,zO,x8,R1,Ee,x9,R2,eC,eD,fA=>by
   have T3:=Ed.small
   have TR:=aO _ _ nh
   have q1:(decide (((i1:Nat):Int)<((l_.length:Nat):Int)))=false:=d!
   exact iL.out (nt,eV,bO) (uJ,uK) rfl (pk (d) _ _ hh _ hh (VV (bx 3 false false .i64 ((i1:Nat):Int) ((l_.length:Nat):Int))<|BB q1<|ZZ) k!) aO o! ⟨aF,nh,zO,x8,(by first | omega | (simp<;>omega)),Ee,x9,(by first | omega | (simp<;>omega)),eC,eD,fA⟩ k!
 | I8+1,i1,nt,eV,bO,uJ,uK,nR,x,hh,aO,aF,pa,nh,zO,x8,R1,Ee,x9,R2,eC,eD,fA=>by
   have T3:=Ed.small
   have TR:=aO _ _ nh
   have q1:(decide (((i1:Nat):Int)<((l_.length:Nat):Int)))=true:=d!
   obtain ⟨p3,q4,o7⟩:=Ed.elem (i:=i1) o!
   have yK:bP env (some (.slice 40)) (some bw) (some (Zn i1))=some (AV.ptr p3 q4):=o7
   have HQ:bH env hh 40 (AV.ptr p3 q4)=some (AV.agg [(Zi (l_.g i1).time),(AV.str (l_.g i1).kind),(AV.str (l_.g i1).item),(AV.str (l_.g i1).bl),(Zi (l_.g i1).number)]):=(Ed.has aF).load o! o7
   obtain ⟨h6,r6,mr,F5,qL,jL⟩:=te aO (aw.cells [(Zi 0),(AV.str []),(AV.str []),(AV.str []),(Zi 0)] 40 false)
   have mu:Has h h6:=aF.trans jL
   have sg:Has hh h6:=jL
   obtain ⟨h7,r7,jJ,F6,jM,fN⟩:=FW (t:=40) (n:=5) (i:=hh.nx) (L:=[(Zi (l_.g i1).time),(AV.str (l_.g i1).kind),(AV.str (l_.g i1).item),(AV.str (l_.g i1).bl),(Zi (l_.g i1).number)]) mr qL k! rfl rfl (by simp only[AV.cells,List.all_cons,List.all_nil,Bool.and_true,Bool.and_self,qF,m3,qG,qH,kC,wc,we,wg,wh,wi,qI])
   have hX:Has h h7:=Has.iE mu fN bK o!
   have nr:Has hh h7:=Has.iE sg fN aO o!
   rcases Bool.eq_false_or_eq_true (decide (0<(eK bO (l_.g i1)))) with f1 | f1
   · have fq:=of_decide_eq_true f1
     obtain ⟨h9,T2,x7,TY⟩:=HX (M:=bO) (l_.g i1) jJ (fN _ _ o! (jL _ _ nh))
     have o9:=x7.1
     have ng:Has h h9:=x7.has hX bK o!
     have Gy:ay h h9 uJ nt:=ay.Je (ay.has zO nr) x7 eC
     have GA:ay h h9 uK eV:=ay.Je (ay.has Ee nr) x7 eD
     obtain ⟨yk,Xs,ya,Xt⟩:=HY (M:=bO) (l_.g i1) (IntKind.i64.wrap ((eK bO (l_.g i1)) - 1)) o9 x7.2.1
     have zJ:=ya.1
     have Ef:Has h yk:=ya.has ng bK o!
     have pg:ay h yk uJ nt:=ay.Je Gy ya eC
     have uu:ay h yk uK eV:=ay.Je GA ya eD
     have c11:AV.same 20 (AV.agg [(Zi (l_.g i1).time),(AV.str (l_.g i1).kind),(AV.str (l_.g i1).item),(AV.str (l_.g i1).bl),(Zi (l_.g i1).number)]) (AV.agg [(Zi (l_.g i1).time),(AV.str (l_.g i1).kind),(AV.str (l_.g i1).item),(AV.str (l_.g i1).bl),(Zi (l_.g i1).number)])=true:=hU 18 (jT (fun n=>aL n _ _) (jT (fun n=>aK n _) (jT (fun n=>aK n _) (jT (fun n=>aK n _) (jT (fun n=>aL n _ _) Od)))))
     obtain ⟨sC,Nn,rV,MS,oP,zH⟩:=te zJ (aw.cells [(Zi (l_.g i1).time),(AV.str (l_.g i1).kind),(AV.str (l_.g i1).item),(AV.str (l_.g i1).bl),(Zi (l_.g i1).number)] 40 false)
     have rW:Has h sC:=Ef.trans zH
     have tz:Has yk sC:=zH
     obtain ⟨z14,Oi,T4,RZ,Xl,Xu,aaX,Ny,Nz⟩:=ay.LP (tys:= #[22,22]) (l:=nt) (m:=[(l_.g i1)]) (x:=(AV.slice yk.nx 0 1 1 false)) rV bK rW o! (ay.has pg tz) rfl (m7 (x:=(l_.g i1)) oP) (by simp [au.c,Fact.c,AV.scalar]) (by first | omega | (simp<;>omega)) rfl rfl k! k! (bytes:=64) k! (z0:=(AV.agg [(Zi 0),(AV.str []),(AV.str []),(AV.str []),(Zi 0)])) k! rfl (by decide)
     have Nu:Has h Oi:=Xu
     have Eg:ay h Oi uK eV:=ay.n6 (ay.has uu tz) (gF.symm fA) Ny
     have Eh:=ay.apart (gF.symm fA) rV (ay.has uu tz) Nz
     have T5:∀y∈(nt++[(l_.g i1)]),au.ok Oi y:=eM (D:=Fact) (Bh (eM (D:=Fact) (h':=sC) x8) (ok_one (au.mono rW (Ed.ok (i:=i1) o!))))
     have u16:=iD 3 false true i1 1 o!
     exact iL.round (by simp only[bG,f1,ah,ae]) (pk (d) _ _ hh _ Oi (VV (bx 3 false false .i64 ((i1:Nat):Int) ((l_.length:Nat):Int))<|BV q1 yK<|MM HQ<|NN r6 (fun i=>(Pt i))<|SS r7<|CC<|MM (aX 40 0 (AV.agg [(Zi (l_.g i1).time),(AV.str (l_.g i1).kind),(AV.str (l_.g i1).item),(AV.str (l_.g i1).bl),(Zi (l_.g i1).number)]) jM k!)<|MM (show nE env h7 108 (some (AV.map jP)) (some (.agg (Fact.c (l_.g i1)))) false=some (Zi (eK bO (l_.g i1))) from pf (l_.g i1) (fN _ _ o! (jL _ _ nh)))<|VV (cb 3 false true .i64 (eK bO (l_.g i1)) 0)<|BC f1<|MM (aX 40 0 (AV.agg [(Zi (l_.g i1).time),(AV.str (l_.g i1).kind),(AV.str (l_.g i1).item),(AV.str (l_.g i1).bl),(Zi (l_.g i1).number)]) jM k!)<|MM (show nE env h7 108 (some (AV.map jP)) (some (.agg (Fact.c (l_.g i1)))) false=some (Zi (eK bO (l_.g i1))) from pf (l_.g i1) (fN _ _ o! (jL _ _ nh)))<|CC<|AA (.e (AV.tuple [(Zi (eK bO (l_.g i1))),(Zi (qh bO (l_.g i1)))]) h9)<|HH T2<|CC<|AA (.e AV.undef yk)<|HH (show AV.undef=AV.undef∧eY h9 (AV.map jP) (Zi (qh bO (l_.g i1))) (Zi (IntKind.i64.wrap ((eK bO (l_.g i1)) - 1)))=some yk from ⟨rfl,Xs⟩)<|HH (aX 40 0 (AV.agg [(Zi (l_.g i1).time),(AV.str (l_.g i1).kind),(AV.str (l_.g i1).item),(AV.str (l_.g i1).bl),(Zi (l_.g i1).number)]) jM k!)<|HH c11<|HH (show nE env h7 108 (some (AV.map jP)) (some (.agg (Fact.c (l_.g i1)))) false=some (Zi (eK bO (l_.g i1))) from pf (l_.g i1) (fN _ _ o! (jL _ _ nh)))<|HH (show AV.same 20 (Zi (eK bO (l_.g i1))) (Zi (eK bO (l_.g i1)))=true from aL 19 _ _)<|HH (show nE env h9 108 (some (AV.map jP)) (some (.agg (Fact.c (l_.g i1)))) false=some (Zi (eK bO (l_.g i1))) from (pf (l_.g i1) x7.2.1).trans (congrArg (fun n=>some (Zi n)) (zN _)))<|HH (show AV.same 20 (Zi (eK bO (l_.g i1))) (Zi (eK bO (l_.g i1)))=true from aL 19 _ _)<|CC<|MM (aX 40 0 (AV.agg [(Zi (l_.g i1).time),(AV.str (l_.g i1).kind),(AV.str (l_.g i1).item),(AV.str (l_.g i1).bl),(Zi (l_.g i1).number)]) (ya.2.2 _ _ o! (x7.2.2 _ _ o! jM)) k!)<|NN Nn (fun i=>(AV.slice i 0 1 1 false))<|PP (show bp env sC #[22,22] uJ (AV.slice yk.nx 0 1 1 false)=some (z14,Oi) from T4)<|CC<|VV u16<|CC<|ZZ) k!) o! _ k! (fun x=>l6 bw l_ other jP Ed I9 I_ bK Xr I8 (i1+1) (nt++[(l_.g i1)]) eV (nU bO (l_.g i1) (IntKind.i64.wrap ((eK bO (l_.g i1)) - 1))) z14 uK o! x Oi RZ Nu o! (Ny _ _ eC (zH _ _ ya.2.1)) aaX T5 (by first | omega | (simp<;>omega)) Eg (eM (D:=Fact) x9) (by first | omega | (simp<;>omega)) (Nz _ (rV _ _ (zH _ _ ya.2.1)) eC) eD (gF.symm Eh))
   · have fq:=of_decide_eq_false f1
     obtain ⟨h9,TX,o9,TY,No,I'⟩:=te jJ (aw.cells [(Zi (l_.g i1).time),(AV.str (l_.g i1).kind),(AV.str (l_.g i1).item),(AV.str (l_.g i1).bl),(Zi (l_.g i1).number)] 40 false)
     have ng:Has h h9:=hX.trans I'
     have BR:Has hh h9:=nr.trans I'
     obtain ⟨Xg,yk,Gp,zJ,Xh,Np,TZ,BS,NA⟩:=ay.LP (tys:= #[22,22]) (l:=eV) (m:=[(l_.g i1)]) (x:=(AV.slice h7.nx 0 1 1 false)) o9 bK ng o! (ay.has Ee BR) rfl (m7 (x:=(l_.g i1)) No) (by simp [au.c,Fact.c,AV.scalar]) (by first | omega | (simp<;>omega)) rfl rfl k! k! (bytes:=64) k! (z0:=(AV.agg [(Zi 0),(AV.str []),(AV.str []),(AV.str []),(Zi 0)])) k! rfl (by decide)
     have Ef:Has h yk:=Np
     have pg:ay h yk uJ nt:=ay.n6 (ay.has zO BR) fA BS
     have Ei:=ay.apart fA o9 (ay.has zO BR) NA
     have T6:∀y∈(eV++[(l_.g i1)]),au.ok yk y:=eM (D:=Fact) (Bh (eM (D:=Fact) (h':=h9) x9) (ok_one (au.mono ng (Ed.ok (i:=i1) o!))))
     have Wl:=iD 3 false true i1 1 o!
     exact iL.round (by simp only[bG,f1,ah,ae]) (pk (d) _ _ hh _ yk (VV (bx 3 false false .i64 ((i1:Nat):Int) ((l_.length:Nat):Int))<|BV q1 yK<|MM HQ<|NN r6 (fun i=>(Pt i))<|SS r7<|CC<|MM (aX 40 0 (AV.agg [(Zi (l_.g i1).time),(AV.str (l_.g i1).kind),(AV.str (l_.g i1).item),(AV.str (l_.g i1).bl),(Zi (l_.g i1).number)]) jM k!)<|MM (show nE env h7 108 (some (AV.map jP)) (some (.agg (Fact.c (l_.g i1)))) false=some (Zi (eK bO (l_.g i1))) from pf (l_.g i1) (fN _ _ o! (jL _ _ nh)))<|VV (cb 3 false true .i64 (eK bO (l_.g i1)) 0)<|BC f1<|MM (aX 40 0 (AV.agg [(Zi (l_.g i1).time),(AV.str (l_.g i1).kind),(AV.str (l_.g i1).item),(AV.str (l_.g i1).bl),(Zi (l_.g i1).number)]) jM k!)<|NN TX (fun i=>(AV.slice i 0 1 1 false))<|PP (show bp env h9 #[22,22] uK (AV.slice h7.nx 0 1 1 false)=some (Xg,yk) from Gp)<|CC<|VV Wl<|CC<|ZZ) k!) o! _ k! (fun x=>l6 bw l_ other jP Ed I9 I_ bK Xr I8 (i1+1) nt (eV++[(l_.g i1)]) bO uJ Xg o! x yk zJ Ef o! (BS _ _ eD (I' _ _ (fN _ _ o! (jL _ _ nh)))) pg (eM (D:=Fact) x8) (by first | omega | (simp<;>omega)) TZ T6 (by first | omega | (simp<;>omega)) eC (NA _ (o9 _ _ (I' _ _ (fN _ _ o! (jL _ _ nh)))) eD) Ei)
def cj (l_:List Fact) (other:List Fact):List Fact×List Fact:=((bG l_ l_.length 0 ([]:List Fact) ([]:List Fact) (bN other other.length 0 ([]:lk))).1,(bG l_ l_.length 0 ([]:List Fact) ([]:List Fact) (bN other other.length 0 ([]:lk))).2.1)
theorem yb {d:Nat} {h:ag} {bw je:AV} (l_:List Fact) (other:List Fact) (cc:ax h bw l_) (BT:ax h je other) (F9:l_.length≤512) (I3:other.length≤512) (bK:Tidy h):∃z0 z1 hk,cC (d+1) (.fn 35) [bw,je] h= .ret (AV.tuple [z0,z1]) hk∧cf h hk∧(ax hk z0 ((cj l_ other).1)∧ay h hk z0 (cj l_ other).1)∧(ax hk z1 ((cj l_ other).2)∧ay h hk z1 (cj l_ other).2):=by
 have jN:=cc.small
 have U4:=BT.small
 obtain ⟨h1,my,j0,F_,b7,tk⟩:=te bK (aw.map [] 0)
 have iQ:Has h h1:=tk
 have QB:cV (some (.slice 40)) (some je)=some (Zn other.length):=BT.len
 obtain ⟨_,RU,h4,lW,Ga,Qu,Xv,T7⟩:=qi (d:=d) (h:=h) bw je other l_ h.nx cc BT o! o! bK o! other.length 0 ([]:lk) o! (fun k_=>((bw::je::AV.undef::AV.undef::AV.aj::AV.aj::(AV.map h.nx)::AV.undef::AV.undef::AV.undef::AV.undef::(AV.map h.nx)::je::(Zn other.length)::(Zi 0)::ck 37):List AV).getD k_ AV.undef) h1 j0 iQ o! b7
 have uG:Has h h4:=Xv
 have B_:cV (some (.slice 40)) (some bw)=some (Zn l_.length):=cc.len
 obtain ⟨⟨U5,Xw⟩,yl6,h7,T8,jJ,acp,Xx,aaY,NB,HZ,aaZ,NC,H0,aa0,JI,JJ,JK⟩:=l6 (d:=d) (h:=h) bw l_ other h.nx cc o! o! bK o! l_.length 0 ([]:List Fact) ([]:List Fact) (bN other other.length 0 ([]:lk)) AV.aj AV.aj o! (fun k_=>((bw::rx RU 1 3 (AV.aj::AV.aj::(AV.map h.nx)::rx RU 7 5 (je::(Zn other.length)::rx RU 14 11 (bw::(Zn l_.length)::(Zi 0)::rx RU 28 24 [])))):List AV).getD k_ AV.undef) h4 Ga uG o! T7 (.inl ⟨.inl rfl,rfl⟩) (fun y hy=>by cases hy) (Nat.zero_le _) (.inl ⟨.inl rfl,rfl⟩) (fun y hy=>by cases hy) (Nat.zero_le _) (bI.nil _) (bI.nil _) (gF.nil _)
 have T9:ax h7 U5 ((bG l_ l_.length 0 ([]:List Fact) ([]:List Fact) (bN other other.length 0 ([]:lk))).1):=ay.rows NB o! HZ
 have YT:=T9.small
 have T_:ax h7 Xw ((bG l_ l_.length 0 ([]:List Fact) ([]:List Fact) (bN other other.length 0 ([]:lk))).2.1):=ay.rows NC o! H0
 have YU:=T_.small
 have hX:Has h h7:=Xx
 have e:cj l_ other=((bG l_ l_.length 0 ([]:List Fact) ([]:List Fact) (bN other other.length 0 ([]:lk))).1,(bG l_ l_.length 0 ([]:List Fact) ([]:List Fact) (bN other other.length 0 ([]:lk))).2.1):=by simp only[cj,ah,ae]
 rw[e]
 have fB:ay h h7 U5 ((bG l_ l_.length 0 ([]:List Fact) ([]:List Fact) (bN other other.length 0 ([]:lk))).1):=ay.le (h0:=h) NB o!
 have fC:ay h h7 Xw ((bG l_ l_.length 0 ([]:List Fact) ([]:List Fact) (bN other other.length 0 ([]:lk))).2.1):=ay.le (h0:=h) NC o!
 exact ⟨U5,Xw,dB rfl (aE Tryz.func35 Gw rfl (.inr rfl) (pk (d) _ _ h _ h7 (CN 2<|NN my (fun i=>(AV.map i))<|CN 2<|VV QB<|CC<|LL lW<|CC<|VV B_<|CC<|LL T8<|CN 4<|ZZ) k!) k!) bK ⟨jJ,hX,by omega⟩ (P:=fun hh=>(ax hh U5 ((bG l_ l_.length 0 ([]:List Fact) ([]:List Fact) (bN other other.length 0 ([]:lk))).1)∧ay h hh U5 (bG l_ l_.length 0 ([]:List Fact) ([]:List Fact) (bN other other.length 0 ([]:lk))).1)∧(ax hh Xw ((bG l_ l_.length 0 ([]:List Fact) ([]:List Fact) (bN other other.length 0 ([]:lk))).2.1)∧ay h hh Xw (bG l_ l_.length 0 ([]:List Fact) ([]:List Fact) (bN other other.length 0 ([]:lk))).2.1)) ⟨⟨ay.rows fB (by first | omega | decide) HZ,fB⟩,⟨ay.rows fC (by first | omega | decide) H0,fC⟩⟩ fun v=>⟨⟨ay.gS fB (bm v (by simp)),ay.gT fB (bm v (by simp))⟩,⟨ay.gS fC (bm v (by simp)),ay.gT fC (bm v (by simp))⟩⟩⟩
def sh:Code:=(Tryz.f15.body).getD .skip
theorem tA:Tryz.f15.body=some sh:=by kernel_rfl
def cN:Code:=(bY sh).getD 0 .skip
def bz (a:List Fact) (b:List Fact):List Fact×List Fact×List Fact×Int:=(bif (!decide ((af a)=0)) then ([],[],[],(af a)) else (bif (!decide ((af b)=0)) then ([],[],[],(af b)) else ((cj a b).1,(cj a b).2,(cj b a).2,0)))
theorem Jg {d:Nat} {h:ag} {aV bV:AV} (a:List Fact) (b:List Fact) (zP:ax h aV a) (zQ:ax h bV b) (bK:Tidy h):∃z0 z1 z2 hk,cC (d+5) (.fn 15) [aV,bV] h= .ret (AV.tuple [z0,z1,z2,(Zi (bz a b).2.2.2)]) hk∧cf h hk∧(ax hk z0 ((bz a b).1)∧ay h hk z0 (bz a b).1)∧(ax hk z1 ((bz a b).2.1)∧ay h hk z1 (bz a b).2.1)∧(ax hk z2 ((bz a b).2.2.1)∧ay h hk z2 (bz a b).2.2.1):=by
 have ND:=zP.small
 have NF:=zQ.small
 have bs1:cq env (aV::bV::AV.undef::AV.undef::AV.aj::AV.aj::AV.aj::(Zi 0)::AV.undef::AV.undef::AV.undef::aV::bV::ck 27) (.buildSlice 75 2 #[(0,.tmp 11),(1,.tmp 12)])=some (aw.cells [aV,bV] 22 false,fun i=>AV.slice i 0 2 2 false):=aaV k! k! k! k! k! (zP.scalar) (zQ.scalar)
 obtain ⟨h2,DM,th,W5,DN,M7⟩:=te bK (aw.cells [aV,bV] 22 false)
 have qO:Has h h2:=M7
 have k3:=ek (d:=d) a (zP.has qO) th
 rcases Bool.eq_false_or_eq_true (!decide ((af a)=0)) with f0 | f0
 · have eg:=uj f0
   have RW:Ev env (cC (d+4)) cN ⟨(aV::bV::AV.undef::AV.undef::AV.aj::AV.aj::AV.aj::(Zi 0)::AV.undef::AV.undef::AV.undef::aV::bV::(AV.slice h.nx 0 2 2 false)::(Zi 2)::(Zi 0)::ck 24),h2,[],.no⟩ .ret ⟨(aV::bV::AV.undef::AV.undef::AV.aj::AV.aj::AV.aj::(Zi (af a))::AV.undef::aV::(Zi (af a))::aV::bV::(AV.slice h.nx 0 2 2 false)::(Zi 2)::(Zi 0)::(AV.bool true)::(Pt h.nx)::aV::aV::(Zi (af a))::(Zi (af a))::(AV.bool (!decide ((af a)=0)))::(Zi (af a))::ck 16),h2,[],.no⟩:=Ev.to (pk (d+4) cN (aV::bV::AV.undef::AV.undef::AV.aj::AV.aj::AV.aj::(Zi 0)::AV.undef::AV.undef::AV.undef::aV::bV::(AV.slice h.nx 0 2 2 false)::(Zi 2)::(Zi 0)::ck 24) h2 .ret h2 (CC<|TT<|CC<|MM (aX 22 0 aV DN k!)<|CN 2<|EE k3<|CN 2<|VV (bD 26 false true .i64 (af a) 0)<|BB f0<|CN 5<|ZZ) k!) k!
   have e:bz a b=([],[],[],(af a)):=by simp only[bz,f0,ah,ae]
   rw[e]
   have fB:ay h h2 AV.aj ([]:List Fact):= .inl ⟨.inl rfl,rfl⟩
   have fC:ay h h2 AV.aj ([]:List Fact):= .inl ⟨.inl rfl,rfl⟩
   have iM:ay h h2 AV.aj ([]:List Fact):= .inl ⟨.inl rfl,rfl⟩
   exact ⟨AV.aj,AV.aj,AV.aj,dB rfl (aE Tryz.func15 tA rfl (.inr rfl) (pk (d+4) _ _ h _ h2 (CN 6<|KK bs1 DM<|CN 2<|LL (show Ev env (cC (d+4)) (.loop cN) ⟨(aV::bV::AV.undef::AV.undef::AV.aj::AV.aj::AV.aj::(Zi 0)::AV.undef::AV.undef::AV.undef::aV::bV::(AV.slice h.nx 0 2 2 false)::(Zi 2)::(Zi 0)::ck 24),h2,[],.no⟩ .ret ⟨(aV::bV::AV.undef::AV.undef::AV.aj::AV.aj::AV.aj::(Zi (af a))::AV.undef::aV::(Zi (af a))::aV::bV::(AV.slice h.nx 0 2 2 false)::(Zi 2)::(Zi 0)::(AV.bool true)::(Pt h.nx)::aV::aV::(Zi (af a))::(Zi (af a))::(AV.bool (!decide ((af a)=0)))::(Zi (af a))::ck 16),h2,[],.no⟩ from (Ev.ret RW))<|ZZ) k!) k!) bK ⟨th,qO,by omega⟩ (P:=fun hh=>(ax hh AV.aj ([]:List Fact)∧ay h hh AV.aj ([]:List Fact))∧(ax hh AV.aj ([]:List Fact)∧ay h hh AV.aj ([]:List Fact))∧(ax hh AV.aj ([]:List Fact)∧ay h hh AV.aj ([]:List Fact))) ⟨⟨ay.rows fB (by first | omega | decide) (fun y hy=>by cases hy),fB⟩,⟨ay.rows fC (by first | omega | decide) (fun y hy=>by cases hy),fC⟩,⟨ay.rows iM (by first | omega | decide) (fun y hy=>by cases hy),iM⟩⟩ fun v=>⟨⟨ay.gS fB (bm v (by simp)),ay.gT fB (bm v (by simp))⟩,⟨ay.gS fC (bm v (by simp)),ay.gT fC (bm v (by simp))⟩,⟨ay.gS iM (bm v (by simp)),ay.gT iM (bm v (by simp))⟩⟩⟩
 · have eg:=uk f0
   have RW:Ev env (cC (d+4)) cN ⟨(aV::bV::AV.undef::AV.undef::AV.aj::AV.aj::AV.aj::(Zi 0)::AV.undef::AV.undef::AV.undef::aV::bV::(AV.slice h.nx 0 2 2 false)::(Zi 2)::(Zi 0)::ck 24),h2,[],.no⟩ .normal ⟨(aV::bV::AV.undef::AV.undef::AV.aj::AV.aj::AV.aj::(Zi 0)::AV.undef::aV::(Zi (af a))::aV::bV::(AV.slice h.nx 0 2 2 false)::(Zi 2)::(Zi 1)::(AV.bool true)::(Pt h.nx)::aV::aV::(Zi (af a))::(Zi (af a))::(AV.bool (!decide ((af a)=0)))::AV.undef::(Zi 1)::ck 15),h2,[],.no⟩:=Ev.to (pk (d+4) cN (aV::bV::AV.undef::AV.undef::AV.aj::AV.aj::AV.aj::(Zi 0)::AV.undef::AV.undef::AV.undef::aV::bV::(AV.slice h.nx 0 2 2 false)::(Zi 2)::(Zi 0)::ck 24) h2 .normal h2 (CC<|TT<|CC<|MM (aX 22 0 aV DN k!)<|CN 2<|EE k3<|CN 2<|VV (bD 26 false true .i64 (af a) 0)<|BB f0<|CN 2<|ZZ) k!) k!
   have k6:=ek (d:=d) b (zQ.has qO) th
   rcases Bool.eq_false_or_eq_true (!decide ((af b)=0)) with f1 | f1
   · have fq:=uj f1
     have TS:Ev env (cC (d+4)) cN ⟨(aV::bV::AV.undef::AV.undef::AV.aj::AV.aj::AV.aj::(Zi 0)::AV.undef::aV::(Zi (af a))::aV::bV::(AV.slice h.nx 0 2 2 false)::(Zi 2)::(Zi 1)::(AV.bool true)::(Pt h.nx)::aV::aV::(Zi (af a))::(Zi (af a))::(AV.bool (!decide ((af a)=0)))::AV.undef::(Zi 1)::ck 15),h2,[],.no⟩ .ret ⟨(aV::bV::AV.undef::AV.undef::AV.aj::AV.aj::AV.aj::(Zi (af b))::AV.undef::bV::(Zi (af b))::aV::bV::(AV.slice h.nx 0 2 2 false)::(Zi 2)::(Zi 1)::(AV.bool true)::(AV.ptr h.nx 1)::bV::bV::(Zi (af b))::(Zi (af b))::(AV.bool (!decide ((af b)=0)))::(Zi (af b))::(Zi 1)::ck 15),h2,[],.no⟩:=Ev.to (pk (d+4) cN (aV::bV::AV.undef::AV.undef::AV.aj::AV.aj::AV.aj::(Zi 0)::AV.undef::aV::(Zi (af a))::aV::bV::(AV.slice h.nx 0 2 2 false)::(Zi 2)::(Zi 1)::(AV.bool true)::(Pt h.nx)::aV::aV::(Zi (af a))::(Zi (af a))::(AV.bool (!decide ((af a)=0)))::AV.undef::(Zi 1)::ck 15) h2 .ret h2 (CC<|TT<|CC<|MM (aX 22 1 bV DN k!)<|CN 2<|EE k6<|CN 2<|VV (bD 26 false true .i64 (af b) 0)<|BB f1<|CN 5<|ZZ) k!) k!
     have e:bz a b=([],[],[],(af b)):=by simp only[bz,f0,f1,ah,ae]
     rw[e]
     have fB:ay h h2 AV.aj ([]:List Fact):= .inl ⟨.inl rfl,rfl⟩
     have fC:ay h h2 AV.aj ([]:List Fact):= .inl ⟨.inl rfl,rfl⟩
     have iM:ay h h2 AV.aj ([]:List Fact):= .inl ⟨.inl rfl,rfl⟩
     exact ⟨AV.aj,AV.aj,AV.aj,dB rfl (aE Tryz.func15 tA rfl (.inr rfl) (pk (d+4) _ _ h _ h2 (CN 6<|KK bs1 DM<|CN 2<|LL (show Ev env (cC (d+4)) (.loop cN) ⟨(aV::bV::AV.undef::AV.undef::AV.aj::AV.aj::AV.aj::(Zi 0)::AV.undef::AV.undef::AV.undef::aV::bV::(AV.slice h.nx 0 2 2 false)::(Zi 2)::(Zi 0)::ck 24),h2,[],.no⟩ .ret ⟨(aV::bV::AV.undef::AV.undef::AV.aj::AV.aj::AV.aj::(Zi (af b))::AV.undef::bV::(Zi (af b))::aV::bV::(AV.slice h.nx 0 2 2 false)::(Zi 2)::(Zi 1)::(AV.bool true)::(AV.ptr h.nx 1)::bV::bV::(Zi (af b))::(Zi (af b))::(AV.bool (!decide ((af b)=0)))::(Zi (af b))::(Zi 1)::ck 15),h2,[],.no⟩ from (Ev.loop RW (Ev.ret TS)))<|ZZ) k!) k!) bK ⟨th,qO,by omega⟩ (P:=fun hh=>(ax hh AV.aj ([]:List Fact)∧ay h hh AV.aj ([]:List Fact))∧(ax hh AV.aj ([]:List Fact)∧ay h hh AV.aj ([]:List Fact))∧(ax hh AV.aj ([]:List Fact)∧ay h hh AV.aj ([]:List Fact))) ⟨⟨ay.rows fB (by first | omega | decide) (fun y hy=>by cases hy),fB⟩,⟨ay.rows fC (by first | omega | decide) (fun y hy=>by cases hy),fC⟩,⟨ay.rows iM (by first | omega | decide) (fun y hy=>by cases hy),iM⟩⟩ fun v=>⟨⟨ay.gS fB (bm v (by simp)),ay.gT fB (bm v (by simp))⟩,⟨ay.gS fC (bm v (by simp)),ay.gT fC (bm v (by simp))⟩,⟨ay.gS iM (bm v (by simp)),ay.gT iM (bm v (by simp))⟩⟩⟩
   · have fq:=uk f1
     have TS:Ev env (cC (d+4)) cN ⟨(aV::bV::AV.undef::AV.undef::AV.aj::AV.aj::AV.aj::(Zi 0)::AV.undef::aV::(Zi (af a))::aV::bV::(AV.slice h.nx 0 2 2 false)::(Zi 2)::(Zi 1)::(AV.bool true)::(Pt h.nx)::aV::aV::(Zi (af a))::(Zi (af a))::(AV.bool (!decide ((af a)=0)))::AV.undef::(Zi 1)::ck 15),h2,[],.no⟩ .normal ⟨(aV::bV::AV.undef::AV.undef::AV.aj::AV.aj::AV.aj::(Zi 0)::AV.undef::bV::(Zi (af b))::aV::bV::(AV.slice h.nx 0 2 2 false)::(Zi 2)::(Zi 2)::(AV.bool true)::(AV.ptr h.nx 1)::bV::bV::(Zi (af b))::(Zi (af b))::(AV.bool (!decide ((af b)=0)))::AV.undef::(Zi 2)::ck 15),h2,[],.no⟩:=Ev.to (pk (d+4) cN (aV::bV::AV.undef::AV.undef::AV.aj::AV.aj::AV.aj::(Zi 0)::AV.undef::aV::(Zi (af a))::aV::bV::(AV.slice h.nx 0 2 2 false)::(Zi 2)::(Zi 1)::(AV.bool true)::(Pt h.nx)::aV::aV::(Zi (af a))::(Zi (af a))::(AV.bool (!decide ((af a)=0)))::AV.undef::(Zi 1)::ck 15) h2 .normal h2 (CC<|TT<|CC<|MM (aX 22 1 bV DN k!)<|CN 2<|EE k6<|CN 2<|VV (bD 26 false true .i64 (af b) 0)<|BB f1<|CN 2<|ZZ) k!) k!
     have Xd:Ev env (cC (d+4)) cN ⟨(aV::bV::AV.undef::AV.undef::AV.aj::AV.aj::AV.aj::(Zi 0)::AV.undef::bV::(Zi (af b))::aV::bV::(AV.slice h.nx 0 2 2 false)::(Zi 2)::(Zi 2)::(AV.bool true)::(AV.ptr h.nx 1)::bV::bV::(Zi (af b))::(Zi (af b))::(AV.bool (!decide ((af b)=0)))::AV.undef::(Zi 2)::ck 15),h2,[],.no⟩ (.exit 0) ⟨(aV::bV::AV.undef::AV.undef::AV.aj::AV.aj::AV.aj::(Zi 0)::AV.undef::bV::(Zi (af b))::aV::bV::(AV.slice h.nx 0 2 2 false)::(Zi 2)::(Zi 2)::(AV.bool false)::(AV.ptr h.nx 1)::bV::bV::(Zi (af b))::(Zi (af b))::(AV.bool (!decide ((af b)=0)))::AV.undef::(Zi 2)::ck 15),h2,[],.no⟩:=Ev.to (pk (d+4) cN (aV::bV::AV.undef::AV.undef::AV.aj::AV.aj::AV.aj::(Zi 0)::AV.undef::bV::(Zi (af b))::aV::bV::(AV.slice h.nx 0 2 2 false)::(Zi 2)::(Zi 2)::(AV.bool true)::(AV.ptr h.nx 1)::bV::bV::(Zi (af b))::(Zi (af b))::(AV.bool (!decide ((af b)=0)))::AV.undef::(Zi 2)::ck 15) h2 (.exit 0) h2 (CC<|FF<|ZZ) k!) k!
     obtain ⟨Oj,z12,jz,NG,nI,⟨QC,R4⟩,⟨NH,NI⟩⟩:=yb (d:=d+3) a b (zP.has qO) (zQ.has qO) (by first | omega | assumption | exact gC (by assumption) | exact di (by assumption)) (by first | omega | assumption | exact gC (by assumption) | exact di (by assumption)) th
     have nH:=nI.y
     have RX:h2.nx≤jz.nx:=nI.n
     have kI:Has h jz:=qO.trans nI.a
     have T':=QC.small
     have Ua:=NH.small
     obtain ⟨z15,Xy,B',ph,si,⟨aa1,abO⟩,⟨NJ,R5⟩⟩:=yb (d:=d+3) b a (zQ.has kI) (zP.has kI) (by first | omega | assumption | exact gC (by assumption) | exact di (by assumption)) (by first | omega | assumption | exact gC (by assumption) | exact di (by assumption)) nH
     have zR:=si.y
     have Xz:jz.nx≤B'.nx:=si.n
     have lK:Has h B':=kI.trans si.a
     have zS:Has jz B':=si.a
     have aa2:=aa1.small
     have Ub:=NJ.small
     have e:bz a b=((cj a b).1,(cj a b).2,(cj b a).2,0):=by simp only[bz,f0,f1,ah,ae]
     rw[e]
     have fB:ay h B' Oj ((cj a b).1):=ay.le (h0:=h) (R4.has zS) o!
     have fC:ay h B' z12 ((cj a b).2):=ay.le (h0:=h) (NI.has zS) o!
     have iM:ay h B' Xy ((cj b a).2):=ay.le (h0:=h) R5 o!
     exact ⟨Oj,z12,Xy,dB rfl (aE Tryz.func15 tA rfl (.inr rfl) (pk (d+4) _ _ h _ B' (CN 6<|KK bs1 DM<|CN 2<|LL (show Ev env (cC (d+4)) (.loop cN) ⟨(aV::bV::AV.undef::AV.undef::AV.aj::AV.aj::AV.aj::(Zi 0)::AV.undef::AV.undef::AV.undef::aV::bV::(AV.slice h.nx 0 2 2 false)::(Zi 2)::(Zi 0)::ck 24),h2,[],.no⟩ (.exit 0) ⟨(aV::bV::AV.undef::AV.undef::AV.aj::AV.aj::AV.aj::(Zi 0)::AV.undef::bV::(Zi (af b))::aV::bV::(AV.slice h.nx 0 2 2 false)::(Zi 2)::(Zi 2)::(AV.bool false)::(AV.ptr h.nx 1)::bV::bV::(Zi (af b))::(Zi (af b))::(AV.bool (!decide ((af b)=0)))::AV.undef::(Zi 2)::ck 15),h2,[],.no⟩ from (Ev.loop RW (Ev.loop TS (Ev.out Xd))))<|CN 2<|EE NG<|CN 7<|EE ph<|CN 11<|ZZ) k!) k!) bK ⟨zR,lK,by omega⟩ (P:=fun hh=>(ax hh Oj ((cj a b).1)∧ay h hh Oj (cj a b).1)∧(ax hh z12 ((cj a b).2)∧ay h hh z12 (cj a b).2)∧(ax hh Xy ((cj b a).2)∧ay h hh Xy (cj b a).2)) ⟨⟨ay.rows fB (by first | omega | decide) (eM (D:=Fact) (QC.P3)),fB⟩,⟨ay.rows fC (by first | omega | decide) (eM (D:=Fact) (NH.P3)),fC⟩,⟨ay.rows iM (by first | omega | decide) (NJ.P3),iM⟩⟩ fun v=>⟨⟨ay.gS fB (bm v (by simp)),ay.gT fB (bm v (by simp))⟩,⟨ay.gS fC (bm v (by simp)),ay.gT fC (bm v (by simp))⟩,⟨ay.gS iM (bm v (by simp)),ay.gT iM (bm v (by simp))⟩⟩⟩
def uD (t:List UInt8):List AV:=t.map fun b=>AV.int .u8 b.toNat
theorem lL (t:List UInt8):(uD t).length=t.length:=List.length_map ..
theorem QD (a b:List UInt8):uD (a++b)=uD a++uD b:=List.map_append
theorem GB (t:List UInt8):(uD t).all AV.scalar=true:=List.all_eq_true.2 fun x hx=>by
 obtain ⟨b,_,rfl⟩:=List.mem_map.1 hx;rfl
theorem Jh (h:ag) (t:List UInt8):cP h 1 (uD t).length (.str t)=some (uD t):=by
 rw[lL];simp only[cP,if_true,List.take_length];rfl
theorem NK (t:List UInt8):jU (.str t)=some (uD t).length:=by rw[lL];rfl
theorem aa3 {d:Nat} {h:ag} {i:Nat} {a z:AV} (y:Tidy h) (hg:h.get i=some (.cells [a,z] 60 false)) (ha:a= .cI∨a= .ptr i 0):
 ∃hk,cC (d+1) (.fn 47) [.ptr i 0] h= .ret (.tuple []) hk∧jS h hk i (.cells [.ptr i 0,z] 60 false)∧hk.nx=h.nx:=by
 rcases ha with rfl | rfl
 · refine ⟨h.put i (some (.cells [.ptr i 0,z] 60 false)),?_,⟨fun k x q=>?_,ag.bu _,fun k x hk q=>by rw[ag.aI (Ne.symm hk)];exact q⟩,rfl⟩
   · have e:M0 47 [.ptr i 0] h=some (.tuple [],h.put i (some (.cells [.ptr i 0,z] 60 false))):=by
      show qK 60 [.ptr i 0] h=_
      simp [qK,hg]
     show dg env M0 (d+1) (.fn 47) _ h=_
     simp only[dg,e]
   · show k<h.nx
     by_cases hk:i=k
     · subst hk;exact y _ _ hg
     · rw[ag.aI hk] at q;exact y _ _ q
 · refine ⟨h,?_,⟨y,hg,fun _ _ _ q=>q⟩,rfl⟩
   have e:M0 47 [.ptr i 0] h=some (.tuple [],h):=by
    show qK 60 [.ptr i 0] h=_
    simp [qK,hg]
   show dg env M0 (d+1) (.fn 47) _ h=_
   simp only[dg,e]
theorem aa4 {d:Nat} {g h:ag} {i:Nat} {a z:AV} {t:List UInt8} (y:Tidy h) (hg:h.get i=some (.cells [a,z] 60 false)) (oz:b_ 5 g h z (uD t)) (hl:t.length≤1000000000):
 ∃hk,cC (d+1) (.fn 26) [.ptr i 0] h= .ret (.str t) hk∧Tidy hk∧hk.nx=h.nx∧(∀k w,bI z k→h.get k=some w→hk.get k=some w):=by
 rcases oz with ⟨rfl,e0⟩ | ⟨hn,p,op,rfl,hp,hgp⟩
 · have ht:t=[]:=List.map_eq_nil_iff.1 e0
   subst ht
   refine ⟨h,?_,y,rfl,fun _ _ _ q=>q⟩
   have e:M0 26 [.ptr i 0] h=some (.str [],h):=by
    show m6 60 5 [.ptr i 0] h=_
    simp [m6,hg]
   show dg env M0 (d+1) (.fn 26) _ h=_
   simp only[dg,e]
 · refine ⟨h.put p none,?_,fun k x q=>?_,rfl,fun k w hk q=>?_⟩
   · have hp0:0<t.length:=by rw[←lL];exact List.length_pos_iff.2 hn
     have e:M0 26 [.ptr i 0] h=some (.str t,h.put p none):=by
      show m6 60 5 [.ptr i 0] h=_
      have q:FR (List.take t.length (uD t))=some t:=by rw[List.take_of_length_le (by rw[lL];exact Nat.le_refl _)];exact HB t
      simp only[m6,hg,hgp,lL,if_true,q]
      rw[if_pos ⟨trivial,hp0,Nat.le_refl _,Nat.le_refl _,by omega⟩]
     show dg env M0 (d+1) (.fn 26) _ h=_
     simp only[dg,e]
   · by_cases hk:p=k
     · subst hk;rw[ag.bu] at q;cases q
     · rw[ag.aI hk] at q;exact y _ _ q
   · rw[ag.aI (fun e=>hk 0 (uD t).length (uD t).length op (by subst e;rfl))];exact q
theorem b_.cV {e:TypeId} {g h:ag} {z:AV} {L:List AV} (o:b_ e g h z L):Ab.cV (some (.slice e)) (some z)=some (.int .i64 ((L.length:Nat):Int)):=by
 rcases o with ⟨rfl,rfl⟩ | ⟨_,p,op,rfl,_,_⟩
 · rw[oC];rfl
 · rw[fm]
theorem Has.R6 {e:TypeId} {h0 g h h':ag} {z:AV} {L:List AV} {i:Nat} (a:Has h0 h) (y0:Tidy h0) (hn:h0.nx≤g.nx) (oz:b_ e g h z L) (hi:h0.nx≤i) (kp:∀k w,k≠i→bI z k→h.get k=some w→h'.get k=some w):Has h0 h':=fun k w q=>by
 have:=y0 _ _ q
 exact kp k w o! (oz.IZ o!) (a _ _ q)
def QE:Code:=(Tryz.f25.body).getD .skip
theorem aa5:Tryz.f25.body=some QE:=by kernel_rfl
theorem XA {d:Nat} {g h:ag} {i:Nat} {a z:AV} {t:List UInt8} (bK:Tidy h) (hg:h.get i=some (.cells [a,z] 60 false)) (oz:b_ 5 g h z (uD t)):
 cC (d+1) (.fn 25) [.ptr i 0] h= .ret (.int .i64 (t.length:Nat)) h:=by
 have gB:cV (some (.slice 5)) (some z)=some (Zn (uD t).length):=b_.cV oz
 rw[show t.length=(uD t).length from (lL t).symm]
 exact ar rfl (aE Tryz.func25 aa5 rfl (.inr rfl) (pk (d) _ _ h _ h (CN 4<|MM (aX 58 1 z hg k!)<|VV gB<|CC<|ZZ) k!) k!) (Has.refl _) rfl
def H2:Code:=(Tryz.f23.body).getD .skip
theorem aa6:Tryz.f23.body=some H2:=by kernel_rfl
theorem aa7 {d:Nat} {g h:ag} {i:Nat} {a z:AV} {t s:List UInt8} (bK:Tidy h) (hg:h.get i=some (.cells [a,z] 60 false)) (ha:a= .cI∨a= .ptr i 0) (oz:b_ 5 g h z (uD t)) (hz:bI z i) (hgn:g.nx≤h.nx) (hl:t.length+s.length≤1000000000):
 ∃z' hk,cC (d+2) (.fn 23) [.ptr i 0,.str s] h= .ret (.tuple [.int .i64 (s.length:Nat),.nilIface]) hk∧Tidy hk∧h.nx≤hk.nx∧hk.get i=some (.cells [.ptr i 0,z'] 60 false)∧b_ 5 g hk z' (uD (t++s))∧bI z' i∧(∀k w,k≠i→bI z k→h.get k=some w→hk.get k=some w)∧(∀k,k<h.nx→bI z k→bI z' k):=by
 have sl:s.length<2^60:=by omega
 have ti:=bK _ _ hg
 obtain ⟨h1,aa8,NL,F_⟩:=aa3 (d:=d) bK hg ha
 have j0:=NL.1
 obtain ⟨z3,h2,XB,th,aa9,oz4,R7,R8⟩:=b_.FA (xd:= .string) (tys:= #[58,9]) (M:=uD s) j0 o! (b_.Je oz NL hz) rfl rfl k! k! rfl k! (bytes:=1) k! (z0:=AV.int .u8 0) k! rfl (by decide) (NK _) (Jh _ _) (GB _) (by rw[lL,lL];omega)
 rw[←QD] at oz4
 have acq:=oz4.scalar
 have H4:=R8 _ o! hz
 have sc6:AV.scalar z3=true:=d!
 obtain ⟨h5,aba,xJ,acr,XC,R9⟩:=aak (t:=58) (i:=i) (o:=1) (v:=z3) (N:=[(Pt i),z3]) th (R7 _ _ hz NL.2.1) k! (d!) k! k!
 have sn7:s.length<2^60:=sl
 have ev:=pk (d+1) H2 ((Pt i)::(AV.str s)::ck 17) h .ret h5 (CN 3<|EE aa8<|CN 4<|MM (aX 58 1 z NL.2.1 k!)<|CC<|PP (show bp env h1 #[58,9] z (AV.str s)=some (z3,h2) from XB)<|CN 2<|SS aba<|CN 4<|ZZ) k!
 have kk:∀k w,k≠i→bI z k→h.get k=some w→h5.get k=some w:=fun k w h1 h2 q=>R9 _ _ h1 (R7 _ _ h2 (NL.2.2 _ _ h1 q))
 have oz':b_ 5 g h5 z3 (uD (t++s)):=oz4.kept R9 H4
 obtain ⟨hk,e,q⟩:=FU rfl (aE Tryz.func23 aa6 k! (.inr rfl) ev k!)
 refine ⟨z3,hk,e,?_⟩
 have np:∀k,k<h.nx→bI z k→bI z3 k:=fun k h1 h2=>R8 k o! h2
 rcases q with rfl | ⟨rfl,A⟩
 · exact ⟨xJ,by omega,XC,oz',H4,kk,np⟩
 · have e1:=A _ _ hg
   rw[XC] at e1
   have e2:=(aw.cells.inj (Option.some.inj e1)).1
   have e3:z3=z:=(List.cons.inj (List.cons.inj e2).2).1
   have e4:AV.ptr i 0=a:=(List.cons.inj e2).1
   subst e3
   refine ⟨bK,Nat.le_refl _,by rw[e4];exact hg,?_,hz,fun _ _ _ _ q=>q,fun _ _ q=>q⟩
   rw[oz.same oz' A];exact oz
end
end Go.Proofs.aA
