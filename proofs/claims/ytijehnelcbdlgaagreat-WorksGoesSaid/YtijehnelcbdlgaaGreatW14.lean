import Derived.Test.YtijehnelcbdlgaaGreatW0
import Derived.Test.YtijehnelcbdlgaaGreatEnv
import Derived.Test.YtijehnelcbdlgaaGreatW3
import Derived.Test.YtijehnelcbdlgaaGreatW1
namespace Go.Proofs.aM
open Go.Proofs Ab
noncomputable section
set_option maxRecDepth 100000
set_option maxHeartbeats 4000000
set_option linter.unusedVariables false
set_option linter.unusedSimpArgs false
theorem ek.nil (k:Nat):ek .aw k:=fun _ _ _ _ e=>by cases e
theorem ek.sl {p o n c k:Nat} {b:Bool} (h:p≠k):ek (.slice p o n c b) k:=fun o' n' c' b' e=>h (AV.slice.inj e).1
section
variable {e:TypeId} {g h h':az} {z z' w:AV} {L M:List AV}
end
section
variable {α:Type} [aK α] {h0 h h':az} {z z' w:AV} {l m:List α}
theorem bI.apb {s xt:TypeId} {tys:Array TypeId} {bytes N:Nat} {z0 x:AV} (y:Tidy h) (y0:Tidy h0) (a:Has h0 h) (hle:h0.nx≤h.nx) (o:bI h0 h z l) (hlen:sE x=some m.length) (hf:gJ h (aK.n α) m.length x=some (m.flatMap aK.c)) (tj:(m.flatMap aK.c).all AV.scalar=true) (hl:l.length+m.length≤N)
 (t0:tys[0]? =some s) (t1:tys[1]? =some xt) (hs:env.P.underlying s=some (.slice (aK.e α))) (hx:env.P.underlying xt=some (.slice (aK.e α))) (hb:jT env (aK.e α)=some bytes) (xS:kE env (aK.e α)=some z0) (hz:z0.cells.length=aK.n α) (YL:∀k,k≤N→(4*k+4096)*(bytes+1)≤1099511627776):
 ∃z' h',cb env h tys z x=some (z',h')∧Tidy h'∧h.nx≤h'.nx∧Has h0 h'∧bI h0 h' z' (l++m)∧(∀i w,ek z i→h.get i=some w→h'.get i=some w)∧(∀k,k<h.nx→ek z k→ek z' k):=by
 have CL:=dJ aK.len m
 have hi:sG (.slice (aK.e α))=false:=rfl
 have CM:∀{p:Nat} {ob:aN},h.get p=some ob→Tidy (h.put p (some ob))∧Has h0 (h.put p (some ob))∧(∀i w,h.get i=some w→(h.put p (some ob)).get i=some w):=fun {p ob} g=>by
  have hg:∀i,(h.put p (some ob)).get i=h.get i:=fun i=>by
   by_cases e:i=p
   · subst e;rw[az.cY,g]
   · rw[az.bQ (Ne.symm e)]
  exact ⟨fun i w q=>y i w (by rw[←hg];exact q),fun i w q=>by rw[hg];exact a i w q,fun i w q=>by rw[hg];exact q⟩
 have abz:m≠ []→∃h',h.new (.cells (m.flatMap aK.c) (aK.e α) false)=some h'∧Tidy h'∧h.nx≤h'.nx∧Has h0 h'∧bI h0 h' (.slice h.nx 0 m.length m.length true) m∧∀i w,h.get i=some w→h'.get i=some w:=fun hm=>by
  obtain ⟨h',n⟩:=uv (h:=h) (.cells (m.flatMap aK.c) (aK.e α) false)
  have:=wh n
  exact ⟨h',n,mq y n,by omega,a.trans (wi y n),.inr ⟨hm,h.nx,true,rfl,hle,rY n⟩,fun i w g=>qC y n g⟩
 rcases o with ⟨rfl | ⟨p,rfl,hp,hg⟩,rfl⟩ | ⟨hn,p,op,rfl,hp,hg⟩
 · rw[List.nil_append]
   by_cases hm:m=[]
   · subst hm
     simp only[List.length_nil,List.flatMap_nil,Nat.zero_mul] at hlen hf tj CL
     refine ⟨.aw,h,?_,y,jR _,a,.inl ⟨.inl rfl,rfl⟩,fun _ _ _ g=>g,fun _ _ q=>q⟩
     simp only[cb,t0,t1,hs,hx,hi,aK.size,hb,hlen,hf,xS,hz,tj,CL,if_true,if_false,and_self,List.length_nil,Bool.false_eq_true,Nat.zero_mul]
   · obtain ⟨h',n,q1,q2,q3,q4,q5⟩:=abz hm
     have Qd:¬m.length=0:=fun e=>hm (List.length_eq_zero_iff.1 e)
     refine ⟨_,h',?_,q1,q2,q3,q4,fun i w _ g=>q5 i w g,fun k hk _=>ek.sl o!⟩
     simp only[cb,t0,t1,hs,hx,hi,aK.size,hb,hlen,hf,xS,hz,tj,CL,Qd,YL m.length o!,n,if_true,if_false,and_self,Bool.false_eq_true]
 · rw[List.nil_append]
   by_cases hm:m=[]
   · subst hm
     simp only[List.length_nil,List.flatMap_nil,Nat.zero_mul] at hlen hf tj CL
     obtain ⟨q1,q2,q3⟩:=CM hg
     refine ⟨_,_,?_,q1,jR _,q2,.inl ⟨.inr ⟨p,rfl,hp,q3 _ _ hg⟩,rfl⟩,fun i w _ g=>q3 i w g,fun _ _ q=>q⟩
     simp only[cb,t0,t1,hs,hx,hi,aK.size,hb,hlen,hf,xS,hz,tj,CL,hg,if_true,if_false,and_self,List.length_nil,Bool.false_eq_true,Nat.zero_mul,Nat.add_zero,jR,List.flatMap_nil,setFrom]
   · obtain ⟨h',n,q1,q2,q3,q4,q5⟩:=abz hm
     have Qd:¬m.length≤0:=fun e=>hm (List.length_eq_zero_iff.1 o!)
     refine ⟨_,h',?_,q1,q2,q3,q4,fun i w _ g=>q5 i w g,fun k hk _=>ek.sl o!⟩
     simp only[cb,t0,t1,hs,hx,hi,aK.size,hb,hlen,hf,xS,hz,tj,CL,hg,Qd,if_true,if_false,and_self,Bool.false_eq_true,Nat.zero_mul,Nat.add_zero,Nat.zero_add,List.length_nil,jR]
     rw[if_pos ⟨YL m.length o!,trivial,fun e=>e.elim⟩]
     simp only[List.drop_nil,List.take_nil,List.nil_append,n]
 · have hlp:0<l.length:=List.length_pos_iff.2 hn
   have hpx:=y _ _ hg
   have hcl:=dJ aK.len l
   by_cases hm:m=[]
   · subst hm
     simp only[List.length_nil,List.flatMap_nil,Nat.zero_mul] at hlen hf tj CL
     obtain ⟨q1,q2,q3⟩:=CM hg
     rw[List.append_nil]
     refine ⟨_,_,?_,q1,jR _,q2,.inr ⟨hn,p,op,rfl,hp,q3 _ _ hg⟩,fun i w _ g=>q3 i w g,fun _ _ q=>q⟩
     simp only[cb,t0,t1,hs,hx,hi,aK.size,hb,hlen,hf,xS,hz,tj,CL,hg,hcl,if_true,if_false,and_self,List.length_nil,Bool.false_eq_true,Nat.zero_mul,Nat.add_zero,Nat.zero_add,jR,List.flatMap_nil,setFrom]
   · have hm0:0<m.length:=List.length_pos_iff.2 hm
     have y2:Tidy (if op then h.put p none else h):=by
      cases op with
      | false=>exact y
      | true=>
       intro i x g
       show i<h.nx
       by_cases hi:i=p
       · subst hi;exact hpx
       · rw[if_pos rfl,az.bQ (Ne.symm hi)] at g;exact y i x g
     have n2:(if op then h.put p none else h).nx=h.nx:=by cases op<;>rfl
     have k2:∀i w,i≠p→h.get i=some w→(if op then h.put p none else h).get i=some w:=fun i w hi g=>by
      cases op with
      | false=>exact g
      | true=>rw[if_pos rfl,az.bQ (Ne.symm hi)];exact g
     obtain ⟨h',n⟩:=uv (h:=if op then h.put p none else h) (.cells (l.flatMap aK.c++m.flatMap aK.c) (aK.e α) false)
     have hk:∀i w,i≠p→h.get i=some w→h'.get i=some w:=fun i w hi g=>qC y2 n (k2 i w hi g)
     have hc:¬l.length+m.length≤l.length:=by omega
     refine ⟨.slice h.nx 0 (l.length+m.length) (l.length+m.length) true,h',?_,mq y2 n,by rw[wh n,n2];omega,fun i w g=>?_,.inr ⟨by simp [hn],h.nx,true,by rw[List.length_append],hle,by rw[List.flatMap_append,←n2];exact rY n⟩,fun i w q g=>hk i w (fun e=>q 0 l.length l.length op (by subst e;rfl)) g,fun k hk _=>ek.sl o!⟩
     · simp only[cb,t0,t1,hs,hx,hi,aK.size,hb,hlen,hf,xS,hz,tj,CL,hg,hc,if_true,if_false,and_self,Bool.false_eq_true]
       rw[if_pos ⟨YL _ hl,by rw[hcl];omega,fun _=>⟨trivial,by rw[hcl];omega,trivial⟩⟩]
       rw[List.drop_zero,List.take_of_length_le (by rw[hcl];exact jR _),n]
     · have:=y0 _ _ g
       exact hk i w o! (a i w g)
theorem bI.I0 {s xt:TypeId} {tys:Array TypeId} {bytes:Nat} {z0 x:AV} (y:Tidy h) (y0:Tidy h0) (a:Has h0 h) (hle:h0.nx≤h.nx) (o:bI h0 h z l) (hlen:sE x=some m.length) (hf:gJ h (aK.n α) m.length x=some (m.flatMap aK.c)) (tj:(m.flatMap aK.c).all AV.scalar=true) (hl:l.length+m.length≤1000000000)
 (t0:tys[0]? =some s) (t1:tys[1]? =some xt) (hs:env.P.underlying s=some (.slice (aK.e α))) (hx:env.P.underlying xt=some (.slice (aK.e α))) (hb:jT env (aK.e α)=some bytes) (xS:kE env (aK.e α)=some z0) (hz:z0.cells.length=aK.n α) (h8:bytes≤255):
 ∃z' h',cb env h tys z x=some (z',h')∧Tidy h'∧h.nx≤h'.nx∧Has h0 h'∧bI h0 h' z' (l++m)∧(∀i w,ek z i→h.get i=some w→h'.get i=some w)∧(∀k,k<h.nx→ek z k→ek z' k):=
 bI.apb y y0 a hle o hlen hf tj hl t0 t1 hs hx hb xS hz fun k hk=>Nat.le_trans (Nat.mul_le_mul (show 4*k+4096≤4294967296 by omega) (show bytes+1≤256 by omega)) (by decide)
theorem bI.kept {b:Nat} (o:bI h0 h z l) (c:Kept b h h') (n:ek z b):bI h0 h' z l:=by
 rcases o with ⟨rfl | ⟨p,rfl,h1,h2⟩,rfl⟩ | ⟨hn,p,op,rfl,hp,hg⟩
 · exact .inl ⟨.inl rfl,rfl⟩
 · exact .inl ⟨.inr ⟨p,rfl,h1,c _ _ (fun q=>n 0 _ _ false (by subst q;rfl)) h2⟩,rfl⟩
 · exact .inr ⟨hn,p,op,rfl,hp,c _ _ (fun q=>n 0 _ _ op (by subst q;rfl)) hg⟩
theorem bI.atd (o:bI h0 h z l) {k:Nat} (hk:k<h0.nx):ek z k:=by
 rcases o with ⟨rfl | ⟨p,rfl,h1,_⟩,rfl⟩ | ⟨_,p,op,rfl,hp,_⟩
 · exact fun _ _ _ _ e=>by cases e
 · exact fun _ _ _ _ e=>by have:=(AV.slice.inj e).1;omega
 · exact fun _ _ _ _ e=>by have:=(AV.slice.inj e).1;omega
end
section
variable {α:Type} [aK α] {h0 h h':az} {z z' w:AV} {l m:List α}
theorem bI.SN {n:Nat} (o:bI h0 h z l) (v:AV.within h0.nx (n+1) z=true):bI h0 h0 z l:=by
 rcases o with ⟨rfl | ⟨p,rfl,h1,h2⟩,rfl⟩ | ⟨hn,p,op,rfl,hp,hg⟩
 · exact .inl ⟨.inl rfl,rfl⟩
 · have:=jv (show decide (p<h0.nx)=true from v);omega
 · have:=jv (show decide (p<h0.nx)=true from v);omega
end
def me {σ ζ:Type} (call:b8) (b:Code) (s:St) (ex:oP) (hh:az) (tn:σ→ζ→(Nat→AV)→List AV) (Qn:σ→ζ→az→Prop) (v:σ):Prop:=
 ∃z y hk,Ev env call (.loop b) s ex ⟨tn v z y,hk,[],.no⟩∧Tidy hk∧hh.nx≤hk.nx∧Qn v z hk
section
variable {σ ζ:Type} {call:b8} {b:Code} {s:St} {ex:oP} {hh hk:az} {tn:σ→ζ→(Nat→AV)→List AV} {Qn:σ→ζ→az→Prop}
theorem me.out {i:Nat} {L:List AV} {o:σ} (v:σ) (z:ζ) (e:o=v) (ev:Ev env call b s (.exit i) ⟨L,hk,[],.no⟩) (y1:Tidy hk) (n1:hh.nx≤hk.nx) (q:Qn v z hk) (hl:L=tn v z fun k=>L.getD k AV.undef):me call b s (.exit i) hh tn Qn o:=by
 subst e
 obtain ⟨y,x⟩:=j9 (tmpl:=tn o z) (Ev.out ev) hl
 exact ⟨z,y,hk,x,y1,n1,q⟩
theorem me.round {L:List AV} {o o':σ} (e:o=o') (ev:Ev env call b s .normal ⟨L,hk,[],.no⟩) (n1:hh.nx≤hk.nx) (Q':(Nat→AV)→List AV) (hl:L=Q' fun k=>L.getD k AV.undef) (ih:∀x,me call b ⟨Q' x,hk,[],.no⟩ ex hk tn Qn o'):me call b s ex hh tn Qn o:=by
 subst e
 have q:=ih fun k=>L.getD k AV.undef
 rw[←hl] at q
 obtain ⟨z,y,h2,x,y1,n2,g⟩:=q
 exact ⟨z,y,h2,Ev.loop ev x,y1,Nat.le_trans n1 n2,g⟩
end
section
variable {σ ζ:Type} {call:b8} {b:Code} {s:St} {ex:oP} {hh hk:az} {tn:σ→ζ→(Nat→AV)→List AV} {Qn:σ→ζ→az→Prop} {tr:(Nat→AV)→List AV} {Rn:az→Prop}
end
theorem me.aes {σ ζ:Type} {call:b8} {b:Code} {s:St} {ex:oP} {hh:az} {tn:σ→ζ→(Nat→AV)→List AV} {Qn Qn':σ→ζ→az→Prop} {v:σ} (l:me call b s ex hh tn Qn v) (w:∀z hk,hh.nx≤hk.nx→Qn v z hk→Qn' v z hk):me call b s ex hh tn Qn' v:=by
 obtain ⟨z,y,hk,a,b1,c,q⟩:=l
 exact ⟨z,y,hk,a,b1,c,w z hk c q⟩
section
variable {rc:RC} {σ ζ:Type} {call:b8} {b:Code} {s:St} {ex:oP} {hh hk:az} {tn:σ→ζ→(Nat→AV)→List AV} {Qn:σ→ζ→az→Prop}
end
section
variable {α:Type} [aK α]
theorem bI.ix {h0 h:az} {z:AV} {l:List α} (y:Tidy h) (o:bI h0 h z l) {i:Nat} (hi:i<l.length):
 ∃p,hG env (some (.slice (aK.e α))) (some z) (some (.int .i64 ((i:Nat):Int)))=some (.ptr p (i*aK.n α))∧p<h.nx∧h0.nx≤p:=by
 rcases o with ⟨_,rfl⟩ | ⟨hn,p,op,rfl,hp,hg⟩
 · simp at hi
 · have ix:=mo (E:=env) (i:=p) (o:=0) (c:=l.length) (b:=op) (aK.size (α:=α)) hi
   rw[Nat.zero_add] at ix
   exact ⟨p,ix,y _ _ hg,hp⟩
theorem SO {L:List AV} {o:Nat} (ho:o<L.length) (v:AV):setFrom L o [v]=L.set o v:=by
 apply List.ext_getElem?
 intro k
 rw[j5,List.getElem?_set]
 by_cases e:o=k
 · subst e;rw[if_pos ⟨by omega,by simp,by omega⟩,if_pos rfl,if_pos ho];simp
 · rw[if_neg (by simp only[List.length_cons,List.length_nil];omega),if_neg e]
theorem aaa {l:List α} {i j:Nat} (h:i<l.length) {x:α} {v:AV} (hj:j<aK.n α) (hc:aK.c x=(aK.c (l.g i)).set j v):(l.flatMap aK.c).set (i*aK.n α+j) v=(l.set i x).flatMap aK.c:=by
 rw[←Oe h x,hc]
 have hl:=dJ aK.len l
 have hb:i*aK.n α+aK.n α≤l.length*aK.n α:=by rw[←Nat.succ_mul];exact Nat.mul_le_mul_right _ h
 apply List.ext_getElem?
 intro k
 rw[j5,List.length_set,aK.len,hl,List.getElem?_set,hl]
 have gi:∀r,r<aK.n α→(l.flatMap aK.c)[i*aK.n α+r]? =(aK.c (l.g i))[r]? :=fun r hr=>oG aK.len l i r h hr
 by_cases e:i*aK.n α+j=k
 · subst e
   rw[if_pos rfl,if_pos o!,if_pos ⟨by omega,by omega,by omega⟩,Nat.add_sub_cancel_left,List.getElem?_set,if_pos rfl,if_pos (by rw[aK.len];exact hj)]
 · rw[if_neg e]
   by_cases q:i*aK.n α≤k∧k<i*aK.n α+aK.n α∧k<l.length*aK.n α
   · obtain ⟨r,rfl⟩:∃r,k=i*aK.n α+r:=⟨k - i*aK.n α,by omega⟩
     rw[if_pos q,Nat.add_sub_cancel_left,List.getElem?_set,if_neg o!,gi r o!]
   · rw[if_neg o!]
theorem bI.alS {h0 h:az} {z:AV} {l:List α} (y:Tidy h) (y0:Tidy h0) (a:Has h0 h) (o:bI h0 h z l) {i:Nat} (hi:i<l.length) {p q:Nat}
 (hix:hG env (some (.slice (aK.e α))) (some z) (some (.int .i64 ((i:Nat):Int)))=some (.ptr p q)) {t:TypeId} {j:Nat} {x:α} {v:AV} (ht:dm env t=some 1) (hv:v.cells=[v]) (hs:v.scalar=true) (hj:j<aK.n α) (hc:aK.c x=(aK.c (l.g i)).set j v):
 ∃h',eS env h t (.ptr p (q+j)) v=some h'∧Tidy h'∧h'.nx=h.nx∧bI h0 h' z (l.set i x)∧Has h0 h'∧∀b w,b≠p→h.get b=some w→h'.get b=some w:=by
 rcases o with ⟨_,rfl⟩ | ⟨hn,p',op,rfl,hp,hg⟩
 · simp at hi
 · have ix:=mo (E:=env) (i:=p') (o:=0) (c:=l.length) (b:=op) (aK.size (α:=α)) hi
   rw[Nat.zero_add,hix] at ix
   simp only[Option.some.injEq,AV.ptr.injEq] at ix
   obtain ⟨rfl,rfl⟩:=ix
   have hl:=dJ aK.len l
   have hb:i*aK.n α+aK.n α≤l.length*aK.n α:=by rw[←Nat.succ_mul];exact Nat.mul_le_mul_right _ hi
   obtain ⟨h',s⟩:=vb (E:=env) (t:=t) (o:=i*aK.n α+j) (n:=1) (v:=v) hg ht (by rw[hv];rfl) o! (by rw[hv];simp [hs])
   have g':=Mu y s hg
   refine ⟨h',s,IT y s hg,IS s hg,.inr ⟨by intro e;rw[←List.length_eq_zero_iff,List.length_set] at e;omega,p,op,by rw[List.length_set],hp,?_⟩,fun j w gw=>?_,fun b w hb gw=>Bl y s hg hb gw⟩
   · rw[g',hv,SO o!,aaa hi hj hc]
   · have:=y0 _ _ gw
     exact Bl y s hg o! (a _ _ gw)
end
def okP (s:Span):Prop:=0≤s.a8∧s.a8≤1099511627776
instance (s:Span):Decidable (okP s):=inferInstanceAs (Decidable (_∧_))
def toP (s:Span):Pz:=if h:okP s then ⟨s.a8,s.aQ,h⟩ else ⟨0,0,by decide⟩
theorem aet {s:Span} (h:okP s):toP s=⟨s.a8,s.aQ,h⟩:=dif_pos h
def rf (L:List Span):List Span:=(m_ (L.map toP)).map fun x=>(⟨x.lo,x.hi⟩:Span)
theorem Nd:∀L:List Span,(∀s∈L,okP s)→L.flatMap aK.c=o5 (L.map toP)
 | [],_=>rfl
 | s::L,h=>by
  rw[List.flatMap_cons,Nd L fun s hs=>h s (List.mem_cons_of_mem _ hs),List.map_cons,aet (h s (by simp))];rfl
theorem KJ:∀L:List Pz,(L.map fun x=>(⟨x.lo,x.hi⟩:Span)).flatMap aK.c=o5 L
 | []=>rfl
 | s::L=>by
  rw[List.map_cons,List.flatMap_cons,KJ L];rfl
theorem oN (L:List Span):(rf L).length=L.length:=by
 have:=(yC (L.map toP)).2.1
 rw[rf,List.length_map,this,List.length_map]
theorem Vy {L:List Span} (hL:∀s∈L,okP s):(rf L).Perm L:=by
 have h:=(yC (L.map toP)).1.map fun x=>(⟨x.lo,x.hi⟩:Span)
 rw[List.map_map] at h
 have e:L.map ((fun x:Pz=>(⟨x.lo,x.hi⟩:Span))∘toP)=L:=by
  conv=>rhs;rw[←List.map_id L]
  exact List.map_congr_left fun s hs=>by show (⟨(toP s).lo,(toP s).hi⟩:Span)=s;rw[aet (hL s hs)]
 rw[e] at h
 exact h
theorem aab (L:List Span):List.Pairwise (fun s r:Span=>s.a8≤r.a8) (rf L):=by
 obtain ⟨_,h2,h3⟩:=yC (L.map toP)
 rw[rf,List.pairwise_map,List.pairwise_iff_getElem]
 intro i j hi hj hij
 have:=h3 i j hij (by rw[←h2];exact hj)
 rw[getElem!_pos _ i hi,getElem!_pos _ j hj] at this
 exact this
theorem apc {d:Nat} {e h:az} {z:AV} {L:List Span} (bM:Tidy h) (oz:bI e h z L) (hL:L.length<1000000) (hP:∀s∈L,okP s):
 ∃h1,cA (d+1) (.fn 133) [z,.func 134 [] []] h= .ret (.tuple []) h1∧Tidy h1∧h1.nx=h.nx∧bI e h1 z (rf L)∧∀k w,ek z k→h.get k=some w→h1.get k=some w:=by
 have go:∀h1,M0 133 [z,.func 134 [] []] h=some (.tuple [],h1)→cA (d+1) (.fn 133) [z,.func 134 [] []] h= .ret (.tuple []) h1:=fun h1 e=>by
  show kG env M0 (d+1) (.fn 133) _ h=_
  simp only[kG,e]
 rcases oz with ⟨rfl | ⟨p,rfl,hp,hg⟩,rfl⟩ | ⟨hn,p,op,rfl,hp,hg⟩
 · refine ⟨h,go h rfl,bM,rfl,.inl ⟨.inl rfl,?_⟩,fun _ _ _ q=>q⟩
   exact List.length_eq_zero_iff.1 (oN [])
 · have e0:rf []=[]:=List.length_eq_zero_iff.1 (oN [])
   have e1:m_ []=[]:=List.length_eq_zero_iff.1 (yC []).2.1
   refine ⟨h.put p (some (.cells [] (aK.e Span) false)),go _ ?_,(jL bM hg).1,rfl,.inl ⟨.inr ⟨p,rfl,hp,az.cY _⟩,e0⟩,fun k w hk q=>?_⟩
   · show IY 134 [.slice p 0 0 0 false,.func 134 [] []] h=_
     unfold IY
     simp only[hg,Bn,if_true,List.length_nil,true_and,e1,o5]
     rfl
   · rw[az.bQ (fun c=>hk 0 0 0 false (by rw[c]))];exact q
 · have hl:(L.map toP).length=L.length:=List.length_map ..
   refine ⟨h.put p (some (.cells (o5 (m_ (L.map toP))) (aK.e Span) false)),go _ ?_,(jL bM hg).1,rfl,.inr ⟨fun c=>hn (List.length_eq_zero_iff.1 (by rw[←oN,c];rfl)),p,op,by rw[oN],hp,?_⟩,fun k w hk q=>?_⟩
   · show IY 134 [.slice p 0 L.length L.length op,.func 134 [] []] h=_
     unfold IY
     rw[Nd L hP] at hg
     simp only[hg,Mv,hl,if_true]
     rw[if_pos ⟨trivial,jR _,hL⟩]
   · rw[az.cY,rf,KJ]
   · rw[az.bQ (fun c=>hk 0 _ _ op (by rw[c]))];exact q
theorem jY {d:Nat} {f:FuncId} {args:List AV} {h h':az} {v:AV} {P:az→Prop} (hm:M0 f args h=none) (hd:xR env (kG env M0 d) f args h v h') (p1:P h') (p2:Has h h'→AV.within h.nx 20 v=true→P h):
 ∃hk,cA (d+1) (.fn f) args h= .ret v hk∧P hk:=by
 by_cases hv:Has h h'∧AV.within h.nx 20 v=true
 · exact ⟨h,aG hm hd hv.1 hv.2,p2 hv.1 hv.2⟩
 · exact ⟨h',EW hm hd hv,p1⟩
def Nf (v:AV):Prop:=v= .aw∨v= .fJ∨∃p o m c b,v= .slice p o m c b
def Qj:AV→Bool:=fun v=>match v with | .aw=>true | _=>false
theorem PU {v:AV} (h:Qj v=true):v= .aw:=by
 cases v<;>first | rfl | (simp [Qj] at h)
theorem XR {α:Type} [aK α] {h:az} {v:AV} {l:List α} (x:aO h v l):Nf v:=by
 rcases x.known with e | e | ⟨p,o,m,c,b,e,_⟩
 · exact .inl e
 · exact .inr (.inl e)
 · exact .inr (.inr ⟨p,o,m,c,b,e⟩)
theorem ahz {k:IntKind} {e:TypeId} {h:az} {v:AV} {l:List Int} (x:bT h k e v l):Nf v:=x.known
theorem Ac {v:AV} (h:Nf v) {t:TypeId} {c d:Bool} (hc:iK env .eql t c d (some .aw) (some .aw)=some (.bool true)) (hz:iK env .eql t c d (some .fJ) (some .aw)=some (.bool false)) (hs:∀p o m q b,iK env .eql t c d (some (.slice p o m q b)) (some .aw)=some (.bool false)):iK env .eql t c d (some v) (some .aw)=some (.bool (Qj v)):=by
 rcases h with rfl | rfl | ⟨p,o,m,q,b,rfl⟩
 · exact hc
 · exact hz
 · exact hs p o m q b
theorem aO.H8 {α:Type} [aK α] {h:az} {l:List α} (x:aO h .aw l):l=[]:=by
 have:=x.len
 cases l with
 | nil=>rfl
 | cons a l=>
  have e:EV (some (.slice (aK.e α))) (some .aw)=some (.int .i64 0):=rfl
  rw[e] at this
  simp only[Option.some.injEq,AV.int.injEq,true_and,List.length_cons] at this
  omega
theorem XS {α:Type} [aK α] {s:TypeId} {bytes p:Nat} {z0:AV} {h h2:az} {sV:AV} {l:List α} (hs:aO h sV l) (hl:l.length≤1000000000) (y2:Tidy h2) (y:Tidy h) (a:Has h h2) (n:h.nx≤h2.nx) (g:h2.get p=some (.cells [] (aK.e α) false)) (hp:h.nx≤p)
 (tj:∀x:α,(aK.c x).all AV.scalar=true) (us:env.P.underlying s=some (.slice (aK.e α))) (hb:jT env (aK.e α)=some bytes) (hz:kE env (aK.e α)=some z0) (hc:z0.cells.length=aK.n α) (h8:bytes≤255):
 ∃z h',cb env h2 #[s,s] (.slice p 0 0 0 false) sV=some (z,h')∧Tidy h'∧h2.nx≤h'.nx∧Has h h'∧bI h h' z l:=by
 have x:=hs.has a
 obtain ⟨z,h',e,y',m,a',o,_,_⟩:=bI.I0 (α:=α) (m:=l) (l:=[]) (tys:= #[s,s]) y2 y a n (.inl ⟨.inr ⟨p,rfl,hp,g⟩,rfl⟩) x.sE x.first (by
  rw[List.all_eq_true]
  intro v hv
  obtain ⟨q,_,hq⟩:=List.mem_flatMap.1 hv
  exact List.all_eq_true.1 (tj q) v hq) (by simpa using hl) rfl rfl us us hb hz hc h8
 exact ⟨z,h',e,y',m,a',o⟩
theorem LX {h:az} {e s xt:TypeId} {tys:Array TypeId} {bytes p n:Nat} {z0 v:AV} {M:List AV} (y:Tidy h) (hp:h.get p=some (.cells [] e false)) (hlen:sE v=some n) (hf:gJ h 1 n v=some M) (ln:M.length=n) (tj:M.all AV.scalar=true) (hl:n≤1000000000)
 (t0:tys[0]? =some s) (t1:tys[1]? =some xt) (hs:env.P.underlying s=some (.slice e)) (hx:env.P.underlying xt=some (.slice e)) (Wz:dm env e=some 1) (hb:jT env e=some bytes) (xS:kE env e=some z0) (hz:z0.cells.length=1) (h8:bytes≤63):
 ∃q o h',cb env h tys (.slice p 0 0 0 false) v=some (.slice q 0 n n o,h')∧Tidy h'∧h.nx≤h'.nx∧Has h h'∧h'.get q=some (.cells M e false)∧p≤q:=by
 have hi:sG (.slice e)=false:=rfl
 have pn:=y _ _ hp
 by_cases hn:n=0
 · subst hn
   have hM:M=[]:=List.length_eq_zero_iff.1 ln
   subst hM
   have hgp:∀i,(h.put p (some (.cells [] e false))).get i=h.get i:=fun i=>by
    by_cases q:i=p
    · subst q;rw[az.cY,hp]
    · rw[az.bQ (Ne.symm q)]
   refine ⟨p,false,h.put p (some (.cells [] e false)),?_,fun i w q=>y i w (by rw[←hgp];exact q),jR _,fun i w q=>by rw[hgp];exact q,by rw[hgp];exact hp,jR _⟩
   simp only[cb,t0,t1,hs,hx,hi,Wz,hb,hlen,hf,xS,hz,tj,hp,if_true,if_false,and_self,List.length_nil,Bool.false_eq_true,Nat.zero_mul,Nat.add_zero,jR,setFrom]
 · obtain ⟨h',nw⟩:=uv (h:=h) (.cells M e false)
   refine ⟨h.nx,true,h',?_,mq y nw,by rw[wh nw];omega,wi y nw,rY nw,by omega⟩
   have Qd:¬n≤0:=by omega
   have YL:(4*n+4096)*(bytes+1)≤1099511627776:=Nat.le_trans (Nat.mul_le_mul (show 4*n+4096≤17179869184 by omega) (show bytes+1≤64 by omega)) (by decide)
   simp only[cb,t0,t1,hs,hx,hi,Wz,hb,hlen,hf,xS,hz,tj,hp,Qd,if_true,if_false,and_self,Bool.false_eq_true,Nat.zero_mul,Nat.add_zero,Nat.zero_add,List.length_nil,jR,ln,Nat.mul_one]
   rw[if_pos ⟨YL,trivial,fun e=>e.elim⟩]
   simp only[List.drop_nil,List.take_nil,List.nil_append,nw]
theorem bT.lf1 {h:az} {e:TypeId} {k:IntKind} {v:AV} {L:List Int} (x:bT h k e v L) (hn:0<L.length):sE v=some (zs k L).length∧gJ h 1 (zs k L).length v=some (zs k L):=by
 have ln:(zs k L).length=L.length:=fS k L
 rw[ln]
 rcases x.at_.block with h0 | ⟨p',o,m,c,b,C,f,ro,h1,_,h2,h3⟩
 · omega
 · subst h1
   have hm:m=L.length:=by
    have:=x.at_.lens
    rw[ju] at this
    simp only[Option.some.injEq,AV.int.injEq,true_and] at this
    omega
   subst hm
   have hC:o+L.length≤C.length:=by
    have:=h3 (L.length - 1) o!
    rw[List.getElem?_eq_getElem (l:=zs k L) o!] at this
    have:=(List.getElem?_eq_some_iff.1 this).1
    omega
   refine ⟨rfl,?_⟩
   simp only[gJ,h2,jR,if_true,if_neg (show ¬L.length=0 by omega),Nat.mul_one]
   rw[if_pos hC]
   congr 1
   apply List.ext_getElem?
   intro j
   by_cases hj:j<L.length
   · rw[List.getElem?_take_of_lt hj,List.getElem?_drop,h3 j o!]
   · rw[List.getElem?_eq_none (by rw[List.length_take];omega),List.getElem?_eq_none o!]
theorem bT.lf0 {h:az} {e:TypeId} {k:IntKind} {v:AV} {l:List Int} (x:bT h k e v l):sE v=some l.length∧gJ h 1 l.length v=some (zs k l):=by
 by_cases hn:0<l.length
 · have:=x.lf1 hn
   rw[fS] at this
   exact this
 · have hl:l=[]:=List.length_eq_zero_iff.1 o!
   subst hl
   have hs:=x.len
   rcases x.known with rfl | rfl | ⟨p,o,m,c,b,rfl⟩
   · exact ⟨rfl,rfl⟩
   · exact ⟨rfl,rfl⟩
   · rw[ju] at hs
     simp only[Option.some.injEq,AV.int.injEq,true_and,List.length_nil] at hs
     obtain rfl:m=0:=by omega
     exact ⟨rfl,rfl⟩
theorem bT.H8 {h:az} {e:TypeId} {k:IntKind} {l:List Int} (x:bT h k e .aw l):l=[]:=by
 have:=x.len
 cases l with
 | nil=>rfl
 | cons a l=>
  have e':EV (some (.slice e)) (some .aw)=some (.int .i64 0):=rfl
  rw[e'] at this
  simp only[Option.some.injEq,AV.int.injEq,true_and,List.length_cons] at this
  omega
theorem alT (k:IntKind) (l:List Int):(zs k l).all AV.scalar=true:=by
 rw[List.all_eq_true];intro v hv
 obtain ⟨q,_,rfl⟩:=List.mem_map.1 hv
 rfl
theorem aeu {s e:TypeId} {k:IntKind} {bytes p:Nat} {z0:AV} {h h2:az} {sV:AV} {l:List Int} (hs:bT h k e sV l) (hl:l.length≤1000000000) (y2:Tidy h2) (y:Tidy h) (a:Has h h2) (n:h.nx≤h2.nx) (g:h2.get p=some (.cells [] e false)) (hp:h.nx≤p)
 (us:env.P.underlying s=some (.slice e)) (Wz:dm env e=some 1) (hb:jT env e=some bytes) (hz:kE env e=some z0) (hc:z0.cells.length=1) (h8:bytes≤63):
 ∃q o h',cb env h2 #[s,s] (.slice p 0 0 0 false) sV=some (.slice q 0 l.length l.length o,h')∧Tidy h'∧h2.nx≤h'.nx∧Has h h'∧h.nx≤q∧h'.get q=some (.cells (zs k l) e false):=by
 have x:=hs.has a
 obtain ⟨q,o,h',e1,y',m,a',g',pq⟩:=LX (tys:= #[s,s]) y2 g x.lf0.1 x.lf0.2 (fS k l) (alT k l) hl rfl rfl us us Wz hb hz hc h8
 exact ⟨q,o,h',e1,y',m,a.trans a',by omega,g'⟩
theorem bI.agree {α:Type} [aK α] {h hk hw:az} {z:AV} {l:List α} (o:bI h hk z l) (ag:∀i o,h.nx≤i→hk.get i=some o→hw.get i=some o):bI h hw z l:=by
 rcases o with ⟨rfl | ⟨p,rfl,hp,hg⟩,rfl⟩ | ⟨hn,p,op,rfl,hp,hg⟩
 · exact .inl ⟨.inl rfl,rfl⟩
 · exact .inl ⟨.inr ⟨p,rfl,hp,ag p _ hp hg⟩,rfl⟩
 · exact .inr ⟨hn,p,op,rfl,hp,ag p _ hp hg⟩
def B5:Code:=(Tryz.f77.body).getD .skip
theorem XT:Tryz.f77.body=some B5:=by kernel_rfl
theorem ahA {d:Nat} {h:az} {sV:AV} {l:List Int} (hs:bT h .i64 3 sV l) (hl:l.length≤1000000000) (bM:Tidy h):
 ∃z hk,cA (d+1) (.fn 77) [sV] h= .ret z hk∧Tidy hk∧h.nx≤hk.nx∧Has h hk∧bT hk .i64 3 z l∧∀hw,(∀i o,h.nx≤i→hk.get i=some o→hw.get i=some o)→bT hw .i64 3 z l:=by
 have kn:Nf sV:=ahz hs
 cases n:Qj sV with
 | true=>
  obtain rfl:sV= .aw:=PU n
  obtain rfl:l=[]:=hs.H8
  have q1:(Qj AV.aw)=true:=d!
  have ev:=pk (d) B5 (AV.aw::iW 7) h .ret h (CN 2<|VV (show iK env .eql 26 false true (some AV.aw) (some AV.aw)=some (AV.bool (Qj AV.aw)) from Ac kn k! k! (fun _ _ _ _ _=>by kernel_rfl))<|BC q1<|ZZ) k!
  obtain ⟨hk,e1,q⟩:=jY (P:=fun hk=>Tidy hk∧h.nx≤hk.nx∧Has h hk∧bT hk .i64 3 AV.aw []∧∀hw,(∀i o,h.nx≤i→hk.get i=some o→hw.get i=some o)→bT hw .i64 3 AV.aw []) rfl (aY (v:=AV.aw) Tryz.func77 XT k! (.inr rfl) ev k!) ⟨bM,jR _,Has.refl _,hs,fun _ _=>bT.nil k! k!⟩ (fun _ _=>⟨bM,jR _,Has.refl _,hs,fun _ _=>bT.nil k! k!⟩)
  exact ⟨_,hk,e1,q⟩
 | false=>
  have q1:(Qj sV)=false:=d!
  obtain ⟨h2,r7,mN,I4,ka,iM⟩:=gQ bM (aN.cells [] 3 false)
  have gm:=iM
  obtain ⟨ahB,ahC,h3,SP,om,Oj,fl,aiX,apd⟩:=aeu hs hl mN bM gm o! ka o! k! k! (bytes:=8) (z0:=(Zi 0)) k! k! k! (by decide)
  have fl:=fl
  have ev:=pk (d) B5 (sV::iW 7) h .ret h3 (CN 2<|VV (show iK env .eql 26 false true (some sV) (some AV.aw)=some (AV.bool (Qj sV)) from Ac kn k! k! (fun _ _ _ _ _=>by kernel_rfl))<|BB q1<|NN r7 (fun i=>(AV.slice i 0 0 0 false))<|CC<|PP (show cb env h2 #[26,26] (AV.slice h.nx 0 0 0 false) sV=some ((AV.slice ahB 0 l.length l.length ahC),h3) from SP)<|CC<|ZZ) k!
  obtain ⟨hk,e1,q⟩:=jY (P:=fun hk=>Tidy hk∧h.nx≤hk.nx∧Has h hk∧bT hk .i64 3 (AV.slice ahB 0 l.length l.length ahC) l∧∀hw,(∀i o,h.nx≤i→hk.get i=some o→hw.get i=some o)→bT hw .i64 3 (AV.slice ahB 0 l.length l.length ahC) l) rfl (aY (v:=(AV.slice ahB 0 l.length l.length ahC)) Tryz.func77 XT k! (.inr rfl) ev k!) ⟨om,by omega,fl,bT.own k! k! apd rfl o!,fun hw ag=>bT.own k! k! (ag _ _ aiX apd) rfl o!⟩ (fun _ v=>(zQ v aiX).elim)
  exact ⟨_,hk,e1,q⟩
def B6:Code:=(Tryz.f78.body).getD .skip
theorem XU:Tryz.f78.body=some B6:=by kernel_rfl
theorem ahD {d:Nat} {h:az} {sV:AV} {l:List ko} (hs:aO h sV l) (hl:l.length≤1000000000) (bM:Tidy h):
 ∃z hk,cA (d+1) (.fn 78) [sV] h= .ret z hk∧Tidy hk∧h.nx≤hk.nx∧Has h hk∧bI h hk z l∧aO hk z l:=by
 have kn:Nf sV:=XR hs
 cases n:Qj sV with
 | true=>
  obtain rfl:sV= .aw:=PU n
  obtain rfl:l=[]:=hs.H8
  have q1:(Qj AV.aw)=true:=d!
  have ev:=pk (d) B6 (AV.aw::iW 7) h .ret h (CN 2<|VV (show iK env .eql 46 false true (some AV.aw) (some AV.aw)=some (AV.bool (Qj AV.aw)) from Ac kn k! k! (fun _ _ _ _ _=>by kernel_rfl))<|BC q1<|ZZ) k!
  obtain ⟨hk,e1,q⟩:=jY (P:=fun hk=>Tidy hk∧h.nx≤hk.nx∧Has h hk∧bI h hk AV.aw ([]:List ko)∧aO hk AV.aw ([]:List ko)) rfl (aY (v:=AV.aw) Tryz.func78 XU k! (.inr rfl) ev k!) ⟨bM,jR _,Has.refl _,.inl ⟨.inl rfl,rfl⟩,hs⟩ (fun _ _=>⟨bM,jR _,Has.refl _,.inl ⟨.inl rfl,rfl⟩,hs⟩)
  exact ⟨_,hk,e1,q⟩
 | false=>
  have q1:(Qj sV)=false:=d!
  obtain ⟨h2,r7,mN,I4,ka,iM⟩:=gQ bM (aN.cells [] 50 false)
  have gm:=iM
  obtain ⟨z4,h3,SP,om,Oj,fl,Eb⟩:=XS hs hl mN bM gm o! ka o! (fun _=>rfl) k! (bytes:=16) (z0:=(AV.agg [(Zi 0),(Zi 0)])) k! k! k! (by decide)
  have fl:=fl
  have ev:=pk (d) B6 (sV::iW 7) h .ret h3 (CN 2<|VV (show iK env .eql 46 false true (some sV) (some AV.aw)=some (AV.bool (Qj sV)) from Ac kn k! k! (fun _ _ _ _ _=>by kernel_rfl))<|BB q1<|NN r7 (fun i=>(AV.slice i 0 0 0 false))<|CC<|PP (show cb env h2 #[46,46] (AV.slice h.nx 0 0 0 false) sV=some (z4,h3) from SP)<|CC<|ZZ) k!
  have rr:∀hk,Has h hk→bI h hk z4 l→aO hk z4 l:=fun hk a o=>bI.rows o o! fun x hx=>aK.mono a (hs.Te x hx)
  obtain ⟨hk,e1,q⟩:=jY (P:=fun hk=>Tidy hk∧h.nx≤hk.nx∧Has h hk∧bI h hk z4 l∧aO hk z4 l) rfl (aY (v:=z4) Tryz.func78 XU k! (.inr rfl) ev k!) ⟨om,by omega,fl,Eb,rr _ fl Eb⟩ (fun _ v=>⟨bM,jR _,Has.refl _,bI.SN Eb v,rr _ (Has.refl _) (bI.SN Eb v)⟩)
  exact ⟨_,hk,e1,q⟩
def B7:Code:=(Tryz.f79.body).getD .skip
theorem XV:Tryz.f79.body=some B7:=by kernel_rfl
theorem ahE {d:Nat} {h:az} {sV:AV} {l:List Span} (hs:aO h sV l) (hl:l.length≤1000000000) (bM:Tidy h):
 ∃z hk,cA (d+1) (.fn 79) [sV] h= .ret z hk∧Tidy hk∧h.nx≤hk.nx∧Has h hk∧bI h hk z l∧aO hk z l:=by
 have kn:Nf sV:=XR hs
 cases n:Qj sV with
 | true=>
  obtain rfl:sV= .aw:=PU n
  obtain rfl:l=[]:=hs.H8
  have q1:(Qj AV.aw)=true:=d!
  have ev:=pk (d) B7 (AV.aw::iW 7) h .ret h (CN 2<|VV (show iK env .eql 43 false true (some AV.aw) (some AV.aw)=some (AV.bool (Qj AV.aw)) from Ac kn k! k! (fun _ _ _ _ _=>by kernel_rfl))<|BC q1<|ZZ) k!
  obtain ⟨hk,e1,q⟩:=jY (P:=fun hk=>Tidy hk∧h.nx≤hk.nx∧Has h hk∧bI h hk AV.aw ([]:List Span)∧aO hk AV.aw ([]:List Span)) rfl (aY (v:=AV.aw) Tryz.func79 XV k! (.inr rfl) ev k!) ⟨bM,jR _,Has.refl _,.inl ⟨.inl rfl,rfl⟩,hs⟩ (fun _ _=>⟨bM,jR _,Has.refl _,.inl ⟨.inl rfl,rfl⟩,hs⟩)
  exact ⟨_,hk,e1,q⟩
 | false=>
  have q1:(Qj sV)=false:=d!
  obtain ⟨h2,r7,mN,I4,ka,iM⟩:=gQ bM (aN.cells [] 52 false)
  have gm:=iM
  obtain ⟨z4,h3,SP,om,Oj,fl,Eb⟩:=XS hs hl mN bM gm o! ka o! (fun _=>rfl) k! (bytes:=16) (z0:=(AV.agg [(Zi 0),(Zi 0)])) k! k! k! (by decide)
  have fl:=fl
  have ev:=pk (d) B7 (sV::iW 7) h .ret h3 (CN 2<|VV (show iK env .eql 43 false true (some sV) (some AV.aw)=some (AV.bool (Qj sV)) from Ac kn k! k! (fun _ _ _ _ _=>by kernel_rfl))<|BB q1<|NN r7 (fun i=>(AV.slice i 0 0 0 false))<|CC<|PP (show cb env h2 #[43,43] (AV.slice h.nx 0 0 0 false) sV=some (z4,h3) from SP)<|CC<|ZZ) k!
  have rr:∀hk,Has h hk→bI h hk z4 l→aO hk z4 l:=fun hk a o=>bI.rows o o! fun x hx=>aK.mono a (hs.Te x hx)
  obtain ⟨hk,e1,q⟩:=jY (P:=fun hk=>Tidy hk∧h.nx≤hk.nx∧Has h hk∧bI h hk z4 l∧aO hk z4 l) rfl (aY (v:=z4) Tryz.func79 XV k! (.inr rfl) ev k!) ⟨om,by omega,fl,Eb,rr _ fl Eb⟩ (fun _ v=>⟨bM,jR _,Has.refl _,bI.SN Eb v,rr _ (Has.refl _) (bI.SN Eb v)⟩)
  exact ⟨_,hk,e1,q⟩
theorem aev {p:Prop} (h:p:=by first | omega | (simp only[List.length_set,List.length_append,List.length_nil,List.nil_append];omega)):p:=h
theorem Ng {p:Prop} (h:p:=by first | omega | (simp<;>omega)):p:=h
def PV:Code:=(Tryz.f80.body).getD .skip
theorem ath:Tryz.f80.body=some PV:=by kernel_rfl
def PW:Code:=(bl PV).getD 0 .skip
def mG (S:List Span):Nat→Nat→List Span→List Span
 | 0,_,L=>L
 | k+1,i,L=>bif (decide (0≤(((L.length:Nat):Int) - 1))) then bif (decide ((S.g i).a8≤(IntKind.i64.wrap (((L.g (((L.length:Nat):Int) - 1).toNat).aQ)+1)))) then mG S k (i+1) (L.set (((L.length:Nat):Int) - 1).toNat ({(L.g (((L.length:Nat):Int) - 1).toNat) with aQ:=(imax (L.g (((L.length:Nat):Int) - 1).toNat).aQ (S.g i).aQ)}:Span)) else mG S k (i+1) (L++[S.g i]) else mG S k (i+1) (L++[S.g i])
theorem H9 {d:Nat} {h:az} {zs:AV} {S:List Span} (bM:Tidy h) (hSh:aO h zs S) (hSl:S.length≤100000):∀(k i0:Nat) (L:List Span) (z:AV) (x:Nat→AV) (hh:az),i0+k=S.length→Tidy hh→Has h hh→h.nx≤hh.nx→bI h hh z L→L.length≤i0→
 me (σ:=List Span) (ζ:=AV) (cA (d+1)) PW ⟨(rx x 0 3 (z::rx x 4 5 (zs::(Zn S.length)::(Zn i0)::rx x 12 37 []))),hh,[],.no⟩ (.exit 0) hh (fun _ z y=>rx y 0 3 (z::rx y 4 45 [])) (fun r z hk=>Has h hk∧bI h hk z r) (mG S k i0 L)
 | 0,i0,L,z,x,hh,eZ,aF,aA,fN,oz,hLi=>by
  have okz:∀y∈L,aK.ok hh y:=fun _ _=>trivial
  have q1:(decide (((i0:Nat):Int)<((S.length:Nat):Int)))=false:=d!
  exact me.out L z rfl (pk (d+1) _ _ hh _ hh (VV (bE 3 false false .i64 ((i0:Nat):Int) ((S.length:Nat):Int))<|BB q1<|ZZ) k!) aF (jR _) ⟨aA,oz⟩ k!
 | k+1,i0,L,z,x,hh,eZ,aF,aA,fN,oz,hLi=>by
  have hS:=hSh.has aA
  have okz:∀y∈L,aK.ok hh y:=fun _ _=>trivial
  have frz:aO hh z L:=bI.rows oz o! okz
  rw[mG]
  rcases bu (decide (0≤(((L.length:Nat):Int) - 1))) with f1 | f1
  · have f1':=jv f1
    rcases bu (decide ((S.g i0).a8≤(IntKind.i64.wrap (((L.g (((L.length:Nat):Int) - 1).toNat).aQ)+1)))) with f2 | f2
    · rw[f1,f2,ao,ao]
      have q1:(decide (((i0:Nat):Int)<((S.length:Nat):Int)))=true:=d!
      obtain ⟨p3,q4,gh⟩:=hS.elem (i:=i0) o!
      have kN:=hS.load o! gh
      obtain ⟨h6,kV,ig,uz,jc,bB⟩:=gQ aF (aN.cells [(Zi 0),(Zi 0)] 52 false)
      have gL:=aA.trans bB
      have mR:=bB
      obtain ⟨h7,jw,dM,r5,dS,aX⟩:=j_ (t:=52) (n:=2) (i:=hh.nx) (L:=[(Zi (S.g i0).a8),(Zi (S.g i0).aQ)]) ig jc k! rfl rfl rfl
      have cV:=Has.bK gL aX bM o!
      have gA:=Has.bK mR aX aF o!
      have ln8:=frz.len
      have w9:IntKind.i64.wrap (((L.length:Nat):Int) - 1)=((L.length:Nat):Int) - 1:=wrap_i64 o! o!
      have uL:(decide (0≤(((L.length:Nat):Int) - 1)))=true:=f1
      obtain ⟨p12,AY,ahF,ahG⟩:=bI.ix dM (oz.has gA) (i:=(((L.length:Nat):Int) - 1).toNat) Ng
      have sa:=xn AY o!
      have rE:=(frz.has gA).part (t:=3) (j:=1) o! AY k! rfl
      have q15:(decide ((S.g i0).a8≤(IntKind.i64.wrap (((L.g (((L.length:Nat):Int) - 1).toNat).aQ)+1))))=true:=f2
      have E3:=(frz.has gA).part (t:=3) (j:=1) o! AY k! rfl
      have aqH:Span.ok h7 (L.g (((L.length:Nat):Int) - 1).toNat):=(wm (D:=Span) (h':=h7) okz) _ (oF aev)
      have aew:aK.ok h7 ({(L.g (((L.length:Nat):Int) - 1).toNat) with aQ:=(imax (L.g (((L.length:Nat):Int) - 1).toNat).aQ (S.g i0).aQ)}:Span):=⟨⟩
      obtain ⟨h23,aex,SL,ape,apf,apg,ati⟩:=bI.alS (x:=({(L.g (((L.length:Nat):Int) - 1).toNat) with aQ:=(imax (L.g (((L.length:Nat):Int) - 1).toNat).aQ (S.g i0).aQ)}:Span)) (v:=(Zi (imax (L.g (((L.length:Nat):Int) - 1).toNat).aQ (S.g i0).aQ))) (t:=3) (j:=1) dM bM cV (oz.has gA) aev AY k! rfl rfl (by decide) rfl
      have SM:=apg
      have ahH:∀y∈(L.set (((L.length:Nat):Int) - 1).toNat ({(L.g (((L.length:Nat):Int) - 1).toNat) with aQ:=(imax (L.g (((L.length:Nat):Int) - 1).toNat).aQ (S.g i0).aQ)}:Span)),aK.ok h23 y:=wm (D:=Span) (abG (wm (D:=Span) (h':=h7) okz) aew)
      have ahI:aO h23 z (L.set (((L.length:Nat):Int) - 1).toNat ({(L.g (((L.length:Nat):Int) - 1).toNat) with aQ:=(imax (L.g (((L.length:Nat):Int) - 1).toNat).aQ (S.g i0).aQ)}:Span)):=bI.rows apf aev ahH
      have amM:=ahI.small
      have aqI:(L.set (((L.length:Nat):Int) - 1).toNat ({(L.g (((L.length:Nat):Int) - 1).toNat) with aQ:=(imax (L.g (((L.length:Nat):Int) - 1).toNat).aQ (S.g i0).aQ)}:Span)).length=L.length:=List.length_set
      have u25:=eA 3 false true i0 1 o!
      have ev:=pk (d+1) PW (rx x 0 3 (z::rx x 4 5 (zs::(Zn S.length)::(Zn i0)::rx x 12 37 []))) hh .normal h23 (VV (bE 3 false false .i64 ((i0:Nat):Int) ((S.length:Nat):Int))<|BV q1 gh<|MM kN<|NN kV (fun i=>(Pt i))<|SS jw<|CC<|VV ln8<|VV (Aj 3 false true w9)<|CN 2<|VV (tA 3 false true .i64 (((L.length:Nat):Int) - 1) 0)<|CC<|BC uL<|BM uL (aP 3 0 (Zi (S.g i0).a8) dS k!)<|BC uL<|BC uL<|BV uL sa<|BC uL<|BM uL rE<|BC uL<|BV uL (tx 3 false false .i64 (S.g i0).a8 (IntKind.i64.wrap (((L.g (((L.length:Nat):Int) - 1).toNat).aQ)+1)))<|VV (tp (decide ((S.g i0).a8≤(IntKind.i64.wrap (((L.g (((L.length:Nat):Int) - 1).toNat).aQ)+1)))) false uL)<|HH (aP 3 0 (Zi (S.g i0).a8) dS k!)<|HH (show AV.same 20 (Zi (S.g i0).a8) (Zi (S.g i0).a8)=true from aS 19 _ _)<|HH rE<|HH (show AV.same 20 (Zi (L.g (((L.length:Nat):Int) - 1).toNat).aQ) (Zi (L.g (((L.length:Nat):Int) - 1).toNat).aQ)=true from aS 19 _ _)<|BB q15<|CN 4<|VV sa<|CC<|MM E3<|CC<|MM (aP 3 1 (Zi (S.g i0).aQ) dS k!)<|CC<|VV sa<|CC<|SS aex<|HH E3<|HH (show AV.same 20 (Zi (L.g (((L.length:Nat):Int) - 1).toNat).aQ) (Zi (L.g (((L.length:Nat):Int) - 1).toNat).aQ)=true from aS 19 _ _)<|HH (aP 3 1 (Zi (S.g i0).aQ) dS k!)<|HH (show AV.same 20 (Zi (S.g i0).aQ) (Zi (S.g i0).aQ)=true from aS 19 _ _)<|VV u25<|CC<|ZZ) k!
      refine me.round rfl ev o! _ k! (fun x=>me.aes (H9 bM hSh hSl k (i0+1) _ z x h23 o! SL SM o! apf (by rw[List.length_set];omega)) fun _ hk hn q=>q)
    · rw[f1,f2,ao,ai]
      have q1:(decide (((i0:Nat):Int)<((S.length:Nat):Int)))=true:=d!
      obtain ⟨p3,q4,gh⟩:=hS.elem (i:=i0) o!
      have kN:=hS.load o! gh
      obtain ⟨h6,kV,ig,uz,jc,bB⟩:=gQ aF (aN.cells [(Zi 0),(Zi 0)] 52 false)
      have gL:=aA.trans bB
      have mR:=bB
      obtain ⟨h7,jw,dM,r5,dS,aX⟩:=j_ (t:=52) (n:=2) (i:=hh.nx) (L:=[(Zi (S.g i0).a8),(Zi (S.g i0).aQ)]) ig jc k! rfl rfl rfl
      have cV:=Has.bK gL aX bM o!
      have gA:=Has.bK mR aX aF o!
      have ln8:=frz.len
      have w9:IntKind.i64.wrap (((L.length:Nat):Int) - 1)=((L.length:Nat):Int) - 1:=wrap_i64 o! o!
      have uL:(decide (0≤(((L.length:Nat):Int) - 1)))=true:=f1
      obtain ⟨p12,AY,ahF,ahG⟩:=bI.ix dM (oz.has gA) (i:=(((L.length:Nat):Int) - 1).toNat) Ng
      have sa:=xn AY o!
      have rE:=(frz.has gA).part (t:=3) (j:=1) o! AY k! rfl
      have q15:(decide ((S.g i0).a8≤(IntKind.i64.wrap (((L.g (((L.length:Nat):Int) - 1).toNat).aQ)+1))))=false:=f2
      obtain ⟨yN,aej,oI,SG,vG,xI⟩:=gQ dM (aN.cells [(Zi (S.g i0).a8),(Zi (S.g i0).aQ)] 52 false)
      have kX:=cV.trans xI
      have vH:=gA.trans xI
      obtain ⟨z18,Qf,Vx,xu,Rs,A1,aht,atj⟩:=bI.app (tys:= #[43,43]) (l:=L) (m:=[(S.g i0)]) (x:=(AV.slice h7.nx 0 1 1 false)) oI bM kX o! (oz.has vH) rfl (oi (x:=(S.g i0)) vG) (by simp [aK.c,Span.c,AV.scalar]) Ng rfl rfl k! k! (bytes:=16) k! (z0:=(AV.agg [(Zi 0),(Zi 0)])) k! rfl (by decide)
      have vj:=A1
      have alV:∀y∈(L++([(S.g i0)])),aK.ok Qf y:=wm (D:=Span) (Bp (wk vH okz) (ok_one trivial))
      have atk:aO Qf z18 (L++([(S.g i0)])):=bI.rows aht Ng alV
      have u20:=eA 3 false true i0 1 o!
      have ev:=pk (d+1) PW (rx x 0 3 (z::rx x 4 5 (zs::(Zn S.length)::(Zn i0)::rx x 12 37 []))) hh .normal Qf (VV (bE 3 false false .i64 ((i0:Nat):Int) ((S.length:Nat):Int))<|BV q1 gh<|MM kN<|NN kV (fun i=>(Pt i))<|SS jw<|CC<|VV ln8<|VV (Aj 3 false true w9)<|CN 2<|VV (tA 3 false true .i64 (((L.length:Nat):Int) - 1) 0)<|CC<|BC uL<|BM uL (aP 3 0 (Zi (S.g i0).a8) dS k!)<|BC uL<|BC uL<|BV uL sa<|BC uL<|BM uL rE<|BC uL<|BV uL (tx 3 false false .i64 (S.g i0).a8 (IntKind.i64.wrap (((L.g (((L.length:Nat):Int) - 1).toNat).aQ)+1)))<|VV (tp (decide ((S.g i0).a8≤(IntKind.i64.wrap (((L.g (((L.length:Nat):Int) - 1).toNat).aQ)+1)))) false uL)<|HH (aP 3 0 (Zi (S.g i0).a8) dS k!)<|HH (show AV.same 20 (Zi (S.g i0).a8) (Zi (S.g i0).a8)=true from aS 19 _ _)<|HH rE<|HH (show AV.same 20 (Zi (L.g (((L.length:Nat):Int) - 1).toNat).aQ) (Zi (L.g (((L.length:Nat):Int) - 1).toNat).aQ)=true from aS 19 _ _)<|BC q15<|MM (aP 52 0 (AV.agg [(Zi (S.g i0).a8),(Zi (S.g i0).aQ)]) dS k!)<|NN aej (fun i=>(AV.slice i 0 1 1 false))<|PP (show cb env yN #[43,43] z (AV.slice h7.nx 0 1 1 false)=some (z18,Qf) from Vx)<|CC<|VV u20<|CC<|ZZ) k!
      refine me.round rfl ev o! _ k! (fun x=>me.aes (H9 bM hSh hSl k (i0+1) _ _ x Qf o! xu vj o! aht (by rw[List.length_append,List.length_singleton];omega)) fun _ hk hn q=>q)
  · rw[f1,ai]
    have q1:(decide (((i0:Nat):Int)<((S.length:Nat):Int)))=true:=d!
    obtain ⟨p3,q4,gh⟩:=hS.elem (i:=i0) o!
    have kN:=hS.load o! gh
    obtain ⟨h6,kV,ig,uz,jc,bB⟩:=gQ aF (aN.cells [(Zi 0),(Zi 0)] 52 false)
    have gL:=aA.trans bB
    have mR:=bB
    obtain ⟨h7,jw,dM,r5,dS,aX⟩:=j_ (t:=52) (n:=2) (i:=hh.nx) (L:=[(Zi (S.g i0).a8),(Zi (S.g i0).aQ)]) ig jc k! rfl rfl rfl
    have cV:=Has.bK gL aX bM o!
    have gA:=Has.bK mR aX aF o!
    have ln8:=frz.len
    have w9:IntKind.i64.wrap (((L.length:Nat):Int) - 1)=((L.length:Nat):Int) - 1:=wrap_i64 o! o!
    have uL:(decide (0≤(((L.length:Nat):Int) - 1)))=false:=f1
    obtain ⟨lY,KH,iU,Gy,vI,jS⟩:=gQ dM (aN.cells [(Zi (S.g i0).a8),(Zi (S.g i0).aQ)] 52 false)
    have my:=cV.trans jS
    have vh:=gA.trans jS
    obtain ⟨z13,pH,alW,hD,Dc,aph,api,atl⟩:=bI.app (tys:= #[43,43]) (l:=L) (m:=[(S.g i0)]) (x:=(AV.slice h7.nx 0 1 1 false)) iU bM my o! (oz.has vh) rfl (oi (x:=(S.g i0)) vI) (by simp [aK.c,Span.c,AV.scalar]) Ng rfl rfl k! k! (bytes:=16) k! (z0:=(AV.agg [(Zi 0),(Zi 0)])) k! rfl (by decide)
    have eT:=aph
    have alX:∀y∈(L++([(S.g i0)])),aK.ok pH y:=wm (D:=Span) (Bp (wk vh okz) (ok_one trivial))
    have atm:aO pH z13 (L++([(S.g i0)])):=bI.rows api Ng alX
    have u15:=eA 3 false true i0 1 o!
    have ev:=pk (d+1) PW (rx x 0 3 (z::rx x 4 5 (zs::(Zn S.length)::(Zn i0)::rx x 12 37 []))) hh .normal pH (VV (bE 3 false false .i64 ((i0:Nat):Int) ((S.length:Nat):Int))<|BV q1 gh<|MM kN<|NN kV (fun i=>(Pt i))<|SS jw<|CC<|VV ln8<|VV (Aj 3 false true w9)<|CN 2<|VV (tA 3 false true .i64 (((L.length:Nat):Int) - 1) 0)<|CC<|BB uL<|BB uL<|BB uL<|BB uL<|BB uL<|BB uL<|BB uL<|BB uL<|BV uL (vd false uL)<|FF<|CC<|MM (aP 52 0 (AV.agg [(Zi (S.g i0).a8),(Zi (S.g i0).aQ)]) dS k!)<|NN KH (fun i=>(AV.slice i 0 1 1 false))<|PP (show cb env lY #[43,43] z (AV.slice h7.nx 0 1 1 false)=some (z13,pH) from alW)<|CC<|VV u15<|CC<|ZZ) k!
    refine me.round rfl ev o! _ k! (fun x=>me.aes (H9 bM hSh hSl k (i0+1) _ _ x pH o! hD eT o! api (by rw[List.length_append,List.length_singleton];omega)) fun _ hk hn q=>q)
def fQ (L:List Span):List Span:=mG (rf L) (rf L).length 0 []
theorem aey {d:Nat} {e h:az} {z:AV} {L:List Span} (bM:Tidy h) (oz:bI e h z L) (hL:L.length≤100000) (hP:∀s∈L,okP s):
 ∃z' hk,cA (d+2) (.fn 80) [z] h= .ret z' hk∧Tidy hk∧h.nx≤hk.nx∧bI h hk z' (fQ L)∧∀k w,ek z k→h.get k=some w→hk.get k=some w:=by
 obtain ⟨h1,atn,de,jW,apj,apk⟩:=apc (d:=d) bM oz o! hP
 have rS:aO h1 z (rf L):=bI.rows apj (by rw[oN];omega) (fun _ _=>trivial)
 have JH:=rS.len
 obtain ⟨z5,Dl,h3,ep,om,Oj,fl,apl⟩:=H9 (d:=d) (h:=h1) de rS (by rw[oN];omega) (rf L).length 0 [] AV.aw (dr (z::aL::AV.aw::AV.aw::aL::aL::aL::z::(AV.tuple [])::z::(Zn (rf L).length)::(Zi 0)::iW 37)) h1 o! de (Has.refl _) (jR _) (.inl ⟨.inl rfl,rfl⟩) (jR _)
 have ev:=pk (d+1) PV (z::iW 48) h .ret h3 (CN 2<|EE atn<|CN 2<|VV JH<|CC<|LL ep<|CN 2<|ZZ) k!
 have oL:bI h h3 z5 (fQ L):=apl.le o!
 obtain ⟨hk,e1,q⟩:=jY (P:=fun hk=>Tidy hk∧h.nx≤hk.nx∧bI h hk z5 (fQ L)∧∀k w,ek z k→h.get k=some w→hk.get k=some w) rfl (aY (v:=z5) Tryz.func80 ath k! (.inr rfl) ev k!) ⟨om,by omega,oL,fun k w n q=>fl _ _ (apk _ _ n q)⟩ (fun _ v=>⟨bM,jR _,bI.SN oL v,fun _ _ _ q=>q⟩)
 exact ⟨_,hk,e1,q⟩
structure pD {α:Type} [aK α] (K:az→α→Prop) (b:Nat) (h0 h:az) (z:AV) (l:List α):Prop where
 own:bI h0 h z l
 els:∃hw,Tidy hw∧Has hw h∧hw.nx≤h.nx∧(∀i o,hw.get i=some o→ek z i∧i≠b)∧∀y∈l,K hw y
section
variable {α:Type} [aK α] {K:az→α→Prop} {b:Nat} {h0 h h3 h':az} {z z':AV} {l:List α}
theorem pD.ok (KM:∀(a c:az) (y:α),Has a c→K a y→K c y) (N:pD K b h0 h z l):∀y∈l,K h y:=fun y hy=>by
 obtain ⟨hw,_,a,_,_,k⟩:=N.els
 exact KM _ _ _ a (k y hy)
theorem pD.rows (KM:∀(a c:az) (y:α),Has a c→K a y→K c y) (KO:∀(a:az) (y:α),K a y→aK.ok a y) (N:pD K b h0 h z l) (hl:l.length<2^60):aO h z l:=bI.rows N.own hl fun y hy=>KO _ _ (N.ok KM y hy)
theorem pD.nil {h0 h:az}:pD (α:=α) K b h0 h .aw [] where
 own:= .inl ⟨.inl rfl,rfl⟩
 els:=⟨az.mk HT.nil 0 fun _=>none,fun i o g=>(by rw[zL] at g;cases g),fun i o g=>(by rw[zL] at g;cases g),Nat.zero_le _,fun i o g=>(by rw[zL] at g;cases g),fun y hy=>by cases hy⟩
theorem pD.kept (N:pD K b h0 h z l) (c:Kept b h h') (n:ek z b) (hn:h.nx≤h'.nx):pD K b h0 h' z l:=by
 obtain ⟨hw,y,a1,n1,k1,k2⟩:=N.els
 exact ⟨N.own.kept c n,hw,y,fun i o g=>c i o (k1 i o g).2 (a1 i o g),by omega,k1,k2⟩
theorem bI.scalar (o:bI h0 h z l):AV.scalar z=true:=by
 rcases o with ⟨rfl | ⟨p,rfl,_,_⟩,_⟩ | ⟨_,p,op,rfl,_,_⟩<;>rfl
theorem bI.fB (o:bI h0 h z l):(∀i,ek z i)∨∃p ob,h.get p=some ob∧(∀i,i≠p→ek z i)∧¬ek z p:=by
 rcases o with ⟨rfl | ⟨p,rfl,hp,hg⟩,rfl⟩ | ⟨hn,p,op,rfl,hp,hg⟩
 · exact .inl fun i o n c b q=>by cases q
 · exact .inr ⟨p,_,hg,(fun i hi o n c b q=>by injection q with q1;exact hi q1.symm),fun n=>n _ _ _ _ rfl⟩
 · exact .inr ⟨p,_,hg,(fun i hi o n c b q=>by injection q with q1;exact hi q1.symm),fun n=>n _ _ _ _ rfl⟩
theorem pD.step {x:α} (KM:∀(a c:az) (y:α),Has a c→K a y→K c y) (N:pD K b h0 h z l) (y:Tidy h) (hb:b<h.nx) (y3:Tidy h3) (a3:Has h h3) (n3:h.nx≤h3.nx) (hx:∀hw,(∀i o,h.nx≤i→h3.get i=some o→hw.get i=some o)→K hw x)
 (o':bI h0 h' z' (l++[x])) (n':h3.nx≤h'.nx) (kp:∀i w,ek z i→h3.get i=some w→h'.get i=some w) (np:∀k,k<h3.nx→ek z k→ek z' k):pD K b h0 h' z' (l++[x]):=by
 obtain ⟨hw,yw,a1,n1,k1,k2⟩:=N.els
 have wo:∀(hh:az) (q:Nat),Tidy hh→∃hv,Tidy hv∧hv.nx=hh.nx∧hv.get q=none∧∀i,i≠q→hv.get i=hh.get i:=fun hh q yy=>by
  cases hg:hh.get q with
  | none=>exact ⟨hh,yy,rfl,hg,fun _ _=>rfl⟩
  | some ob=>
   obtain ⟨hv,e1,e2,e3,_,e5⟩:=dI yy hg
   exact ⟨hv,e1,e2,e3,e5⟩
 obtain ⟨hb1,yb,nb,gb,kb⟩:=wo h3 b y3
 have fin:∀hv,Tidy hv→hv.nx=h3.nx→hv.get b=none→(∀i o,hv.get i=some o→ek z i∧h3.get i=some o)→(∀i,h.nx≤i→hv.get i=h3.get i)→Has hw hv→pD K b h0 h' z' (l++[x]):=fun hv yv nv gv kv av hwv=>
  ⟨o',hv,yv,fun i o g=>kp i o (kv i o g).1 (kv i o g).2,by omega,fun i o g=>⟨np i (by have:=yv i o g;omega) (kv i o g).1,fun e=>by subst e;rw[gv] at g;cases g⟩,fun q hq=>by
   rcases List.mem_append.1 hq with hq | hq
   · exact KM _ _ _ hwv (k2 q hq)
   · rw[List.mem_singleton.1 hq];exact hx hv fun i o hi g=>(av i hi).trans g⟩
 rcases N.own.fB with hz | ⟨p,ob,hp,hz,zp⟩
 · refine fin hb1 yb nb gb (fun i o g=>⟨hz i,?_⟩) (fun i hi=>kb i o!) fun i o g=>?_
   · have:i≠b:=fun e=>by subst e;rw[gb] at g;cases g
     rw[←kb i this];exact g
   · rw[kb i (k1 i o g).2];exact a3 i o (a1 i o g)
 · have pn:=y p ob hp
   obtain ⟨hv,yv,nv,gv,kv⟩:=wo hb1 p yb
   have same:∀i,i≠b→i≠p→hv.get i=h3.get i:=fun i e1 e2=>(kv i e2).trans (kb i e1)
   have hvb:hv.get b=none:=by
    by_cases e:b=p
    · rw[e];exact gv
    · rw[kv b e];exact gb
   refine fin hv yv o! hvb (fun i o g=>?_) (fun i hi=>same i o! o!) fun i o g=>?_
   · have e1:i≠b:=fun e=>by subst e;rw[hvb] at g;cases g
     have e2:i≠p:=fun e=>by subst e;rw[gv] at g;cases g
     exact ⟨hz i e2,by rw[←same i e1 e2];exact g⟩
   · have e2:i≠p:=fun e=>zp (by rw[←e];exact (k1 i o g).1)
     rw[same i (k1 i o g).2 e2];exact a3 i o (a1 i o g)
end
def KT:az→Task→Prop:=fun h y=>aK.ok h y
theorem KT.mono (a c:az) (y:Task) (h:Has a c) (k:KT a y):KT c y:=aK.mono h k
def KR (h0:az):az→aR→Prop:=fun h y=>aK.ok h y∧bI h0 h y.cJ y.off
theorem KR.mono {h0:az} (a c:az) (y:aR) (h:Has a c) (k:KR h0 a y):KR h0 c y:=⟨aK.mono h k.1,k.2.has h⟩
def Nh (a b:Task):Prop:=a.name=b.name∧a.takes=b.takes∧a.aD=b.aD∧a.aB=b.aB
def ClT (L T:List Task) (n:Nat):Prop:=L.length=n∧∀q,q<n→Nh (L.g q) (T.g q)
theorem KL {α:Type} [Inhabited α] {L:List α} {x:α} {q:Nat} (h:q<L.length):(L++[x]).g q=L.g q:=by
 rw[List.g,List.g,List.getD_eq_getElem?_getD,List.getD_eq_getElem?_getD,List.getElem?_append_left h]
theorem Vz {α:Type} [Inhabited α] {L:List α} {x:α}:(L++[x]).g L.length=x:=by
 rw[List.g,List.getD_eq_getElem?_getD,List.getElem?_append_right (jR _),Nat.sub_self];rfl
theorem ClT.snoc {L T:List Task} {n:Nat} {x:Task} (c:ClT L T n) (s:Nh x (T.g n)):ClT (L++[x]) T (n+1):=by
 refine ⟨by rw[List.length_append,List.length_singleton,c.1],fun q hq=>?_⟩
 by_cases e:q<n
 · rw[KL (by rw[c.1];exact e)];exact c.2 q e
 · have:q=L.length:=by rw[c.1];omega
   subst this
   rw[Vz];rw[c.1];exact s
def KN (a b:aR):Prop:=a.name=b.name∧a.aI=b.aI∧a.off=b.off
def ClR (L T:List aR) (n:Nat):Prop:=L.length=n∧∀q,q<n→KN (L.g q) (T.g q)
theorem ClR.snoc {L T:List aR} {n:Nat} {x:aR} (c:ClR L T n) (s:KN x (T.g n)):ClR (L++[x]) T (n+1):=by
 refine ⟨by rw[List.length_append,List.length_singleton,c.1],fun q hq=>?_⟩
 by_cases e:q<n
 · rw[KL (by rw[c.1];exact e)];exact c.2 q e
 · have:q=L.length:=by rw[c.1];omega
   subst this
   rw[Vz];rw[c.1];exact s
theorem bI.apm {α:Type} [aK α] {h0 h:az} {z:AV} {l:List α} (o:bI h0 h z l) (y:Tidy h) (i:Nat):ek z i∨i<h.nx:=by
 rcases o.fB with n | ⟨p,ob,g,n,_⟩
 · exact .inl (n i)
 · by_cases e:i=p
   · subst e;exact .inr (y _ _ g)
   · exact .inl (n i e)
theorem bI.xJ {α:Type} [aK α] {h0 h:az} {z:AV} {l:List α} (o:bI h0 h z l) {i:Nat} (hi:i<h0.nx):ek z i:=fun a n c b q=>by
 rcases o with ⟨rfl | ⟨p,rfl,hp,_⟩,_⟩ | ⟨_,p,op,rfl,hp,_⟩
 · cases q
 · injection q with q1;omega
 · injection q with q1;omega
def ApR (l:List aR):Prop:=∀a b,a<b→b<l.length→∀i,ek (l.g a).cJ i∨ek (l.g b).cJ i
theorem ApR.nil:ApR []:=fun a b _ h=>by cases h
theorem ApR.snoc {l:List aR} {x:aR} {m:Nat} (A:ApR l) (lo:∀a,a<l.length→∀i,ek (l.g a).cJ i∨i<m) (hi:∀i,i<m→ek x.cJ i):ApR (l++[x]):=fun a b Wc hb i=>by
 rw[List.length_append,List.length_singleton] at hb
 by_cases e:b<l.length
 · rw[KL e,KL o!];exact A a b Wc e i
 · have:b=l.length:=by omega
   subst this
   rw[Vz,KL Wc]
   rcases lo a Wc i with n | n
   · exact .inl n
   · exact .inr (hi i n)
theorem bI.via {α:Type} [aK α] {h0 h h':az} {z:AV} {l:List α} (o:bI h0 h z l) (k:∀p ob,¬ek z p→h.get p=some ob→h'.get p=some ob):bI h0 h' z l:=by
 rcases o with ⟨rfl | ⟨p,rfl,hp,hg⟩,rfl⟩ | ⟨hn,p,op,rfl,hp,hg⟩
 · exact .inl ⟨.inl rfl,rfl⟩
 · exact .inl ⟨.inr ⟨p,rfl,hp,k p _ (fun n=>n _ _ _ _ rfl) hg⟩,rfl⟩
 · exact .inr ⟨hn,p,op,rfl,hp,k p _ (fun n=>n _ _ _ _ rfl) hg⟩
theorem pD.apart {b:Nat} {h0 h1 h:az} {z:AV} {l:List aR} (N:pD (KR h1) b h0 h z l) {y:aR} (hy:y∈l) {i:Nat} (hi:¬ek z i):ek y.cJ i:=by
 obtain ⟨hw,_,_,_,k1,k2⟩:=N.els
 rcases (k2 y hy).2.fB with n | ⟨p,ob,g,n,_⟩
 · exact n i
 · by_cases e:i=p
   · subst e;exact absurd (k1 _ _ g).1 hi
   · exact n i e
theorem Ni {b:Nat} {h0 h1 h h':az} {z:AV} {l:List aR} (N:pD (KR h1) b h0 h z l) (A:ApR l) {i q:Nat} (hi:i<l.length) (hq:q<l.length) (ne:q≠i) (k:∀p ob,h1.nx≤p→ek (l.g i).cJ p→ek z p→h.get p=some ob→h'.get p=some ob) (sm:(l.g q).off.length<2^60):aK.ok h' (l.g q):=by
 obtain ⟨hw,_,a1,_,k1,k2⟩:=N.els
 have K:=k2 _ (oF hq)
 refine ⟨K.1.1,bI.rows (K.2.via fun p ob np g=>k p ob (Nat.le_of_not_lt fun c=>np (K.2.xJ c)) ?_ (k1 p ob g).1 (a1 p ob g)) sm fun _ _=>trivial⟩
 rcases Nat.lt_or_gt_of_ne ne with e | e
 · rcases A q i e hi p with n | n
   · exact absurd n np
   · exact n
 · rcases A i q e hq p with n | n
   · exact n
   · exact absurd n np
theorem Nj {α:Type} [Inhabited α] {l:List α} {i:Nat} {x y:α} (hi:i<l.length) (h:y∈l.set i x):y=x∨∃q,q<l.length∧q≠i∧y=l.g q:=by
 obtain ⟨q,hq,e⟩:=List.getElem_of_mem h
 rw[List.length_set] at hq
 by_cases z:i=q
 · subst z;rw[List.getElem_set_self] at e;exact .inl e.symm
 · rw[List.getElem_set_ne z] at e
   exact .inr ⟨q,hq,fun w=>z w.symm,by rw[←e,List.g,List.getD_eq_getElem?_getD,List.getElem?_eq_getElem hq];rfl⟩
theorem aez {h h1 h2:az} {b:Nat} (a:Has h h1) (k:Kept b h1 h2) (n:h.get b=none):Has h h2:=fun i x g=>k i x (fun e=>by subst e;rw[n] at g;cases g) (a i x g)
theorem bI.same {α:Type} [aK α] {h0 h:az} {z:AV} {l:List α} (o:bI h0 h z l) (n:Nat):AV.same (n+1) z z=true:=by
 rcases o with ⟨rfl | ⟨p,rfl,_,_⟩,_⟩ | ⟨_,p,op,rfl,_,_⟩
 · rfl
 · exact gy n _ _ _ _ _
 · exact gy n _ _ _ _ _
theorem bI.alY {α:Type} [aK α] {h0 h:az} {z:AV} {l:List α} (o:bI h0 h z l):z.cells=[z]:=by
 rcases o with ⟨rfl | ⟨p,rfl,_,_⟩,_⟩ | ⟨_,p,op,rfl,_,_⟩<;>rfl
theorem bI.apn {α:Type} [aK α] {h0 h:az} {z:AV} {l:List α} (o:bI h0 h z l) {i p q:Nat} (hi:i<l.length) (hix:hG env (some (.slice (aK.e α))) (some z) (some (.int .i64 ((i:Nat):Int)))=some (.ptr p q)):(∀k,k≠p→ek z k)∧¬ek z p:=by
 rcases o with ⟨_,rfl⟩ | ⟨hn,p',op,rfl,hp,hg⟩
 · simp at hi
 · have ix:=mo (E:=env) (i:=p') (o:=0) (c:=l.length) (b:=op) (aK.size (α:=α)) hi
   rw[Nat.zero_add,hix] at ix
   simp only[Option.some.injEq,AV.ptr.injEq] at ix
   obtain ⟨rfl,rfl⟩:=ix
   exact ⟨fun k hk o n c b q=>by injection q with q1;exact hk q1.symm,fun n=>n _ _ _ _ rfl⟩
theorem VA (S:List Span):∀(k i:Nat) (L:List Span),(mG S k i L).length≤L.length+k
 | 0,i,L=>by rw[mG];omega
 | k+1,i,L=>by
  have a:=VA S k (i+1) (L++[S.g i])
  rw[List.length_append,List.length_singleton] at a
  rw[mG]
  have key:∀(b1 b2:Bool) (M:List Span),M.length=L.length→(bif b1 then bif b2 then mG S k (i+1) M else mG S k (i+1) (L++[S.g i]) else mG S k (i+1) (L++[S.g i])).length≤L.length+(k+1):=fun b1 b2 M hM=>by
   have c:=VA S k (i+1) M
   cases b1<;>cases b2<;>simp only[ao,ai]<;>omega
  exact key _ _ _ (List.length_set ..)
theorem VB (L:List Span):(fQ L).length≤L.length:=by
 have:=VA (rf L) (rf L).length 0 []
 rw[oN] at this
 rw[fQ,oN]
 simpa using this
def ahJ:Code:=(Tryz.f35.body).getD .skip
def aeB:Code:=(bl ahJ).getD 0 .skip
theorem XW {d:Nat} {h:az} {tV:AV} {T:List Task} {jb fb rb ob:Nat} {r:Int} (bM:Tidy h) (hTh:aO h tV T) (hTl:T.length≤1000) (SZ:∀q,q<T.length→(T.g q).aD.length≤1000000∧(T.g q).aB.length≤1000000) (N0:h.get ob=none):∀(k i0:Nat) (L:List Task) (z:AV) (x:Nat→AV) (hh:az),i0+k=T.length→Tidy hh→Has h hh→h.nx≤hh.nx→hh.get ob=some (.cells [z,.aw] 25 false)→ek z ob→pD KT ob h hh z L→ClT L T i0→
 me (σ:=Unit) (ζ:=AV×List Task) (cA (d+2)) aeB ⟨(rx x 0 1 ((Zi r)::rx x 2 1 ((Pt jb)::rx x 4 1 ((Pt fb)::(Pt rb)::rx x 7 1 ((Pt ob)::rx x 9 6 (tV::(Zn T.length)::(Zn i0)::rx x 18 58 [])))))),hh,[],.no⟩ (.exit 0) hh (fun _ w y=>(rx y 0 1 ((Zi r)::rx y 2 1 ((Pt jb)::rx y 4 1 ((Pt fb)::(Pt rb)::rx y 7 1 ((Pt ob)::rx y 9 6 (tV::(Zn T.length)::rx y 17 59 []))))))) (fun _ w hk=>Has h hk∧hk.get ob=some (.cells [w.1,.aw] 25 false)∧ek w.1 ob∧pD KT ob h hk w.1 w.2∧ClT w.2 T T.length) ()
 | 0,i0,L,z,x,hh,eZ,aF,aA,fN,gs,Ec,N,C=>by
  have e0:i0=T.length:=by omega
  have q1:(decide (((i0:Nat):Int)<((T.length:Nat):Int)))=false:=d!
  exact me.out () (z,L) rfl (pk (d+2) _ _ hh _ hh (VV (bE 3 false false .i64 ((i0:Nat):Int) ((T.length:Nat):Int))<|BB q1<|ZZ) k!) aF (jR _) ⟨aA,gs,Ec,N,e0▸C⟩ k!
 | k+1,i0,L,z,x,hh,eZ,aF,aA,fN,gs,Ec,N,C=>by
  have hT:=hTh.has aA
  have sz:=SZ i0 o!
  have cl:=C.1
  have ato:=aF _ _ gs
  have q1:(decide (((i0:Nat):Int)<((T.length:Nat):Int)))=true:=d!
  obtain ⟨p3,q4,gh⟩:=hT.elem (i:=i0) o!
  have kN:=hT.load o! gh
  obtain ⟨h6,kV,ig,uz,jc,bB⟩:=gQ aF (aN.cells [(AV.str []),(Zi 0),AV.aw,AV.aw] 48 false)
  have gL:=aA.trans bB
  have mR:=bB
  have C6:=((hT.ok (i:=i0) o!).2.1).scalar
  have MQ:=((hT.ok (i:=i0) o!).2.2).scalar
  obtain ⟨h7,jw,dM,r5,dS,aX⟩:=j_ (t:=48) (n:=4) (i:=hh.nx) (L:=[(AV.str (T.g i0).name),(Zi (T.g i0).takes),(T.g i0).bh,(T.g i0).bo]) ig jc k! rfl rfl (kJ rfl (kJ rfl (kJ C6 (kJ MQ rfl))))
  have cV:=Has.bK gL aX bM o!
  have gA:=Has.bK mR aX aF o!
  obtain ⟨z11,vQ,ael,ji,M9,FR,VC,alZ⟩:=ahA (d:=d+1) (l:=(T.g i0).aD) ((hT.ok (i:=i0) o!).2.1.has gA) o! dM
  have gZ:=(cV.trans FR)
  have C7:=(gA.trans FR)
  obtain ⟨z13,pH,Rw,hD,Dc,qh,al0,VD⟩:=ahD (d:=d+1) (l:=(T.g i0).aB) ((hT.ok (i:=i0) o!).2.2.has C7) o! ji
  have eT:=(gZ.trans qh)
  have aeC:=(C7.trans qh)
  have Z9:=qh
  have ZO:=VC.scalar
  obtain ⟨Tg,I7,vf,abJ,aeD,nC⟩:=T4 (t:=26) (i:=hh.nx) (o:=2) (v:=z11) (N:=[(AV.str (T.g i0).name),(Zi (T.g i0).takes),z11,(T.g i0).bo]) hD (qh _ _ (FR _ _ dS)) k! VC.scalar k! k!
  have sU:=Has.bK eT nC bM o!
  have aeE:=Has.bK aeC nC aF o!
  have al2:=VD.scalar
  obtain ⟨yN,KC,oI,SG,vG,lg⟩:=T4 (t:=46) (i:=hh.nx) (o:=3) (v:=z13) (N:=[(AV.str (T.g i0).name),(Zi (T.g i0).takes),z11,z13]) vf aeD k! VD.scalar k! k!
  have kX:=Has.bK sU lg bM o!
  have vH:=Has.bK aeE lg aF o!
  have c18:=((hT.ok (i:=i0) o!).2.1).same 19
  have c19:=((hT.ok (i:=i0) o!).2.2).same 19
  obtain ⟨Y1,ab1,AG,anV,ab2,xr⟩:=gQ oI (aN.cells [(AV.str (T.g i0).name),(Zi (T.g i0).takes),z11,z13] 48 false)
  have Jg:=kX.trans xr
  have C_:=vH.trans xr
  obtain ⟨z22,h21,Ui,ab3,aio,Jh,VE,aeF,aeG⟩:=bI.I0 (tys:= #[22,22]) (l:=L) (m:=[(⟨(T.g i0).name,(T.g i0).takes,z11,(T.g i0).aD,z13,(T.g i0).aB⟩:Task)]) (x:=(AV.slice yN.nx 0 1 1 false)) AG bM Jg o! (N.own.has C_) rfl (oi (x:=(⟨(T.g i0).name,(T.g i0).takes,z11,(T.g i0).aD,z13,(T.g i0).aB⟩:Task)) ab2) (by simp only[List.flatMap_cons,List.flatMap_nil,List.append_nil,aK.c,Task.c,List.all_cons,List.all_nil,VC.scalar,VD.scalar,Bool.true_and,Bool.and_true];rfl) (by simp;omega) rfl rfl k! k! (bytes:=72) k! (z0:=(AV.agg [(AV.str []),(Zi 0),AV.aw,AV.aw])) k! k! (by decide)
  have apr:=pD.step (x:=(⟨(T.g i0).name,(T.g i0).takes,z11,(T.g i0).aD,z13,(T.g i0).aB⟩:Task)) KT.mono N aF (aF _ _ gs) AG C_ o! (fun hw ag=>⟨(hT.ok (i:=i0) o!).1,alZ hw fun i o hi g=>ag i o o! (xr _ _ (lg _ _ o! (nC _ _ o! (qh _ _ g)))),bI.rows (bI.agree al0 fun i o hi g=>ag i o o! (xr _ _ (lg _ _ o! (nC _ _ o! g)))) (show (T.g i0).aB.length<2^60 by omega) fun _ _=>trivial⟩) VE aio aeF aeG
  have Ji:=Jh
  have au5:AV.scalar z22=true:=(bI.scalar VE)
  obtain ⟨h23,aex,SL,ape,aps,aeH⟩:=T4 (t:=22) (i:=ob) (o:=0) (v:=z22) (N:=[z22,AV.aw]) ab3 (aeF _ _ Ec (xr _ _ (lg _ _ o! (nC _ _ o! (qh _ _ (FR _ _ (aX _ _ o! (bB _ _ gs)))))))) k! (bI.scalar VE) k! k!
  have SM:=aez Ji aeH N0
  have u25:=eA 3 false true i0 1 o!
  have ev:=pk (d+2) aeB ((x 0)::(Zi r)::(x 2)::(Pt jb)::(x 4)::(Pt fb)::(Pt rb)::(x 7)::(Pt ob)::rx x 9 6 (tV::(Zn T.length)::(Zn i0)::rx x 18 58 [])) hh .normal h23 (VV (bE 3 false false .i64 ((i0:Nat):Int) ((T.length:Nat):Int))<|BV q1 gh<|MM kN<|NN kV (fun i=>(Pt i))<|SS jw<|CC<|MM (aP 26 2 (T.g i0).bh dS k!)<|CC<|MM (aP 46 3 (T.g i0).bo dS k!)<|EE ael<|CC<|EE Rw<|SS I7<|CC<|SS KC<|HH (aP 26 2 (T.g i0).bh dS k!)<|HH c18<|HH (aP 46 3 (T.g i0).bo dS k!)<|HH c19<|HH (aP 46 3 (T.g i0).bo (FR _ _ dS) k!)<|HH c19<|CC<|MM (aP 22 0 z (lg _ _ o! (nC _ _ o! (qh _ _ (FR _ _ (aX _ _ o! (bB _ _ gs)))))) k!)<|MM (aP 48 0 (AV.agg [(AV.str (T.g i0).name),(Zi (T.g i0).takes),z11,z13]) vG k!)<|NN ab1 (fun i=>(AV.slice i 0 1 1 false))<|PP (show cb env Y1 #[22,22] z (AV.slice yN.nx 0 1 1 false)=some (z22,h21) from Ui)<|CC<|SS aex<|VV u25<|CC<|ZZ) k!
  have ni2:ek z22 ob:=aeG ob o! Ec
  refine me.round rfl ev o! _ k! (fun x=>me.aes (XW bM hTh hTl SZ N0 k (i0+1) _ z22 x h23 o! SL SM o! aps ni2 (pD.kept apr aeH ni2 o!) (C.snoc ⟨rfl,rfl,rfl,rfl⟩)) fun _ hk hn q=>q)
end
end Go.Proofs.aM
