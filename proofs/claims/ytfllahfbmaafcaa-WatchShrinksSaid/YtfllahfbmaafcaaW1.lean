import Derived.Test.YtfllahfbmaafcaaW0
namespace Go.Proofs.aK
open Go.Proofs Ab
noncomputable section
set_option maxRecDepth 100000
set_option maxHeartbeats 4000000
set_option linter.unusedVariables false
set_option linter.unusedSimpArgs false
def ch (q:aw) (r:aB):Int:=(bif (decide (r.aC<0)) then 7 else (bif (decide (((q.ao.length:Nat):Int)≤r.aC)) then 7 else (bif (!(rO r.time)) then 1 else (bif (!(nj r.value)) then 1 else 0))))
def bX (q:aw) (l_:List aB):Nat→Nat→Int→Int
 | 0,_,zA=>zA
 | gB+1,i0,zA=>(bif (decide (zA=0)) then bX q l_ gB (i0+1) (ch q (l_.g i0)) else zA)
def bY (q:aw) (l_:List aB):Int:=(bif (decide ((bB q)=0)) then (bif (decide (64<((l_.length:Nat):Int))) then (bX q l_ l_.length 0 3) else (bX q l_ l_.length 0 (bB q))) else (bX q l_ l_.length 0 (bB q)))
theorem d_ {c:Bool} {a b:Int} (ha:a≠0) (h:(bif c then a else b)=0):c=false∧b=0:=by
 cases c with
 | true=>exact absurd h ha
 | false=>exact ⟨rfl,h⟩
theorem zB (q:aw) (l:List aB):∀(k i:Nat) (v:Int),v≠0→bX q l k i v=v
 | 0,_,_,_=>rfl
 | k+1,i,v,h=>by rw[bX,decide_eq_false h];rfl
theorem pf (q:aw) (l:List aB):∀(k i:Nat) (v:Int),bX q l k i v=0→v=0∧∀j,i≤j→j<i+k→ch q (l.g j)=0
 | 0,i,v,h=>⟨h,fun j a b=>by omega⟩
 | k+1,i,v,h=>by
   rw[bX] at h
   by_cases e:v=0
   · rw[decide_eq_true e,ax] at h
     obtain ⟨h1,h2⟩:=pf q l k (i+1) _ h
     refine ⟨e,fun j a b=>?_⟩
     by_cases ej:j=i
     · rw[ej];exact h1
     · exact h2 j o! o!
   · rw[decide_eq_false e] at h;exact absurd h e
theorem HO {q:aw} (h:bB q=0):q.ao.length≤8:=by
 rw[bB] at h
 obtain ⟨_,h⟩:=d_ (by decide) h
 obtain ⟨_,h⟩:=d_ (by decide) h
 obtain ⟨_,h⟩:=d_ (by decide) h
 obtain ⟨_,h⟩:=d_ (by decide) h
 obtain ⟨_,h⟩:=d_ (by decide) h
 obtain ⟨_,h⟩:=d_ (by decide) h
 obtain ⟨_,h⟩:=d_ (by decide) h
 obtain ⟨_,h⟩:=d_ (by decide) h
 obtain ⟨h1,_⟩:=d_ (by decide) h
 have:=of_decide_eq_false h1
 omega
theorem O' {q:aw} {l:List aB} (h:bY q l=0):(∀i,i<l.length→0≤(l.g i).aC∧(l.g i).aC<(q.ao.length:Int))∧l.length≤64∧q.ao.length≤8:=by
 rw[bY] at h
 by_cases e:bB q=0
 · rw[decide_eq_true e,ax] at h
   by_cases e2:(64:Int)<((l.length:Nat):Int)
   · rw[decide_eq_true e2,ax] at h
     exact absurd (pf q l _ _ _ h).1 (by decide)
   · rw[decide_eq_false e2,ar] at h
     refine ⟨fun i hi=>?_,by omega,HO e⟩
     have k:=(pf q l _ _ _ h).2 i (Nat.zero_le _) o!
     rw[ch] at k
     obtain ⟨k1,k⟩:=d_ (by decide) k
     obtain ⟨k2,_⟩:=d_ (by decide) k
     have:=of_decide_eq_false k1;have:=of_decide_eq_false k2
     omega
 · rw[decide_eq_false e,ar] at h
   exact absurd (pf q l _ _ _ h).1 e
def eM (g:aE) (t:Int):Int:=(IntKind.i64.wrap (g.acc+(IntKind.i64.wrap (g.b6*(IntKind.i64.wrap (Int.tdiv (IntKind.i64.wrap ((imax (IntKind.i64.wrap (t - g.since)) 0)+999)) 1000))))))
def uC (a:Span):Bool:=(decide (a.aD<a.aM))
def nG (q:aw) (k_:cK) (t:Int):Span:=(bif (decide (k_.time≤t)) then (⟨(IntKind.i64.wrap (k_.aj -(IntKind.i64.wrap (q.aJ*(IntKind.i64.wrap (t - k_.time)))))),(IntKind.i64.wrap (k_.ah+(IntKind.i64.wrap (q.aH*(IntKind.i64.wrap (t - k_.time))))))⟩:Span) else (⟨(IntKind.i64.wrap (k_.aj -(IntKind.i64.wrap (q.aH*(IntKind.i64.wrap (k_.time - t)))))),(IntKind.i64.wrap (k_.ah+(IntKind.i64.wrap (q.aJ*(IntKind.i64.wrap (k_.time - t))))))⟩:Span))
def vS (a:Span) (b:Span):Span:=(⟨(imax a.aM b.aM),(FH a.aD b.aD)⟩:Span)
def my (l_:List cK) (q:aw) (i0:Nat):Nat→Nat→Option (Bool)
 | 0,_=>none
 | bj+1,i1=>(bif (uC (vS (nG q (l_.g i0) (l_.g i1).time) (⟨(l_.g i1).aj,(l_.g i1).ah⟩:Span))) then some false else my l_ q i0 bj (i1+1))
def mz (l_:List cK) (q:aw):Nat→Nat→Option (Bool)
 | 0,_=>none
 | gB+1,i0=>(match (my l_ q i0 l_.length 0) with | none=>mz l_ q gB (i0+1) | some rr3=>some rr3)
def uD (q:aw) (l_:List cK):Bool:=(match (mz l_ q l_.length 0) with | none=>true | some Lf=>Lf)
def zC (z w:AV):Prop:=∀k,bA z k∨bA w k
theorem bA.nil (k:Nat):bA .aI k:=fun _ _ _ _ e=>by cases e
theorem zC.nil (w:AV):zC .aI w:=fun k=> .inl (bA.nil k)
theorem zC.symm {z w:AV} (a:zC z w):zC w z:=fun k=>(a k).symm
theorem bA.sl {p o n c k:Nat} {b:Bool} (h:p≠k):bA (.slice p o n c b) k:=fun o' n' c' b' e=>h (AV.slice.inj e).1
section
variable {e:TypeId} {g h h':au} {z z' w:AV} {L M:List AV}
theorem iE.BS (y:Tidy h) (o:iE e g h z L) {k:Nat} (hk:h.nx≤k):bA z k:=by
 rcases o with ⟨rfl,_⟩ | ⟨_,p,op,rfl,_,hg⟩
 · exact bA.nil k
 · have:=y _ _ hg
   exact bA.sl o!
theorem iE.aM (o:iE e g h z L) {k:Nat} (hk:k<g.nx):bA z k:=by
 rcases o with ⟨rfl,_⟩ | ⟨_,p,op,rfl,hp,hg⟩
 · exact bA.nil k
 · exact bA.sl o!
theorem iE.xA (o:iE e g h w L) (ap:zC z w) (kp:∀i x,bA z i→h.get i=some x→h'.get i=some x):iE e g h' w L:=by
 rcases o with ⟨rfl,e0⟩ | ⟨hn,p,op,rfl,hp,hg⟩
 · exact .inl ⟨rfl,e0⟩
 · exact .inr ⟨hn,p,op,rfl,hp,kp _ _ ((ap p).resolve_right fun q=>q _ _ _ _ rfl) hg⟩
theorem iE.Tv {b:Nat} {C:aR} (o:iE e g h z L) (c:Chg h h' b C) (n:bA z b):iE e g h' z L:=by
 rcases o with ⟨rfl,e0⟩ | ⟨hn,p,op,rfl,hp,hg⟩
 · exact .inl ⟨rfl,e0⟩
 · exact .inr ⟨hn,p,op,rfl,hp,c.2.2 _ _ (fun q=>n 0 _ _ op (by subst q;rfl)) hg⟩
theorem iE.scalar (o:iE e g h z L):AV.scalar z=true:=by
 rcases o with ⟨rfl,_⟩ | ⟨_,p,op,rfl,_,_⟩<;>rfl
theorem iE.kept {b:Nat} (o:iE e g h z L) (c:Kept b h h') (n:bA z b):iE e g h' z L:=by
 rcases o with ⟨rfl,e0⟩ | ⟨hn,p,op,rfl,hp,hg⟩
 · exact .inl ⟨rfl,e0⟩
 · exact .inr ⟨hn,p,op,rfl,hp,c _ _ (fun q=>n 0 _ _ op (by subst q;rfl)) hg⟩
theorem iE.same {L':List AV} (o:iE e g h z L) (o':iE e g h' z L') (a:Has h h'):L'=L:=by
 rcases o with ⟨rfl,e0⟩ | ⟨hn,p,op,rfl,hp,hg⟩<;>rcases o' with ⟨e1,e2⟩ | ⟨V4,p',op',e1,Wk,hg'⟩
 · rw[e0,e2]
 · cases e1
 · cases e1
 · have q:=(AV.slice.inj e1).1
   subst q
   have:=a _ _ hg
   rw[hg'] at this
   simpa using this
theorem iE.KO {s xt:TypeId} {xd:TypeDesc} {tys:Array TypeId} {bytes:Nat} {z0 x:AV} (y:Tidy h) (hle:g.nx≤h.nx) (o:iE e g h z L) (t0:tys[0]? =some s) (t1:tys[1]? =some xt) (hs:env.P.underlying s=some (.slice e)) (hx:env.P.underlying xt=some xd) (hi:jk xd=false) (GK:bT env e=some 1) (hb:eK env e=some bytes) (o_:eh env e=some z0) (hz:z0.cells.length=1) (h8:bytes≤63) (hlen:jD x=some M.length) (hf:dP h 1 M.length x=some M) (mR:M.all AV.scalar=true) (hl:L.length+M.length≤1073741824):
 ∃z' h',bf env h tys z x=some (z',h')∧Tidy h'∧h.nx≤h'.nx∧iE e g h' z' (L++M)∧(∀i w,bA z i→h.get i=some w→h'.get i=some w)∧(∀k,k<h.nx→bA z k→bA z' k):=by
 by_cases hm:M=[]
 · subst hm
   rcases o with ⟨rfl,rfl⟩ | ⟨hn,p,op,rfl,hp,hg⟩
   · refine ⟨.aI,h,?_,y,Nat.le_refl _,.inl ⟨rfl,rfl⟩,fun _ _ _ q=>q,fun _ _ q=>q⟩
     simp only[List.length_nil] at hlen hf
     simp only[bf,t0,t1,hs,hx,hi,GK,hb,hlen,hf,o_,hz,mR,if_true,if_false,and_self,List.length_nil,Bool.false_eq_true,Nat.zero_mul]
   · have Z8:∀i,(h.put p (some (.cells L e false))).get i=h.get i:=fun i=>by
      by_cases q:i=p
      · subst q;rw[au.bF,hg]
      · rw[au.aY (Ne.symm q)]
     refine ⟨_,h.put p (some (.cells L e false)),?_,fun i x q=>y i x (by rw[←Z8];exact q),Nat.le_refl _,.inr ⟨by simpa using hn,p,op,by rw[List.append_nil],hp,by rw[Z8,List.append_nil];exact hg⟩,fun i w _ q=>by rw[Z8];exact q,fun _ _ q=>q⟩
     simp only[List.length_nil] at hlen hf
     simp only[bf,t0,t1,hs,hx,hi,GK,hb,hlen,hf,o_,hz,mR,hg,if_true,if_false,and_self,List.length_nil,Bool.false_eq_true,Nat.zero_mul,Nat.add_zero,Nat.zero_add,Nat.le_refl,Nat.mul_one,setFrom]
 · rcases o with ⟨rfl,rfl⟩ | ⟨hn,p,op,rfl,hp,hg⟩
   · obtain ⟨h',e1,n⟩:=qD (h:=h) t0 t1 hs hx hi GK hb o_ hz h8 hlen hf mR hm (by simpa using hl)
     have:=kq n
     exact ⟨_,h',e1,fM y n,by omega,.inr ⟨by simpa using hm,h.nx,true,by simp,hle,iD n⟩,fun i w _ q=>eZ y n q,fun k hk _=>bA.sl o!⟩
   · obtain ⟨h',e1,y1,z1,k1,g1⟩:=qE (op:=op) y t0 t1 hs hx hi GK hb o_ hz h8 hlen hf mR rfl hm hl hg
     exact ⟨_,h',e1,y1,by omega,.inr ⟨by simp [hn],h.nx,true,by rw[List.length_append],hle,g1⟩,fun i w q=>k1 i w (fun e=>q 0 L.length L.length op (by subst e;rfl)),fun k hk _=>bA.sl o!⟩
end
section
variable {α:Type} [az α] {h0 h h':au} {z z' w:AV} {l m:List α}
theorem ba.aan {s xt:TypeId} {tys:Array TypeId} {bytes N:Nat} {z0 x:AV} (y:Tidy h) (y0:Tidy h0) (a:Has h0 h) (hle:h0.nx≤h.nx) (o:ba h0 h z l) (hlen:jD x=some m.length) (hf:dP h (az.n α) m.length x=some (m.flatMap az.c)) (mR:(m.flatMap az.c).all AV.scalar=true) (hl:l.length+m.length≤N)
 (t0:tys[0]? =some s) (t1:tys[1]? =some xt) (hs:env.P.underlying s=some (.slice (az.e α))) (hx:env.P.underlying xt=some (.slice (az.e α))) (hb:eK env (az.e α)=some bytes) (o_:eh env (az.e α)=some z0) (hz:z0.cells.length=az.n α) (Tu:∀k,k≤N→(4*k+4096)*(bytes+1)≤1099511627776):
 ∃z' h',bf env h tys z x=some (z',h')∧Tidy h'∧h.nx≤h'.nx∧Has h0 h'∧ba h0 h' z' (l++m)∧(∀i w,bA z i→h.get i=some w→h'.get i=some w)∧(∀k,k<h.nx→bA z k→bA z' k):=by
 have xG:=bP az.len m
 have hi:jk (.slice (az.e α))=false:=rfl
 have uz:∀{p:Nat} {ob:aR},h.get p=some ob→Tidy (h.put p (some ob))∧Has h0 (h.put p (some ob))∧(∀i w,h.get i=some w→(h.put p (some ob)).get i=some w):=fun {p ob} g=>by
  have hg:∀i,(h.put p (some ob)).get i=h.get i:=fun i=>by
   by_cases e:i=p
   · subst e;rw[au.bF,g]
   · rw[au.aY (Ne.symm e)]
  exact ⟨fun i w q=>y i w (by rw[←hg];exact q),fun i w q=>by rw[hg];exact a i w q,fun i w q=>by rw[hg];exact q⟩
 have O5:m≠ []→∃h',h.new (.cells (m.flatMap az.c) (az.e α) false)=some h'∧Tidy h'∧h.nx≤h'.nx∧Has h0 h'∧ba h0 h' (.slice h.nx 0 m.length m.length true) m∧∀i w,h.get i=some w→h'.get i=some w:=fun hm=>by
  obtain ⟨h',n⟩:=kr (h:=h) (.cells (m.flatMap az.c) (az.e α) false)
  have:=kq n
  exact ⟨h',n,fM y n,by omega,a.trans (uv y n),.inr ⟨hm,h.nx,true,rfl,hle,iD n⟩,fun i w g=>eZ y n g⟩
 rcases o with ⟨rfl | ⟨p,rfl,hp,hg⟩,rfl⟩ | ⟨hn,p,op,rfl,hp,hg⟩
 · rw[List.nil_append]
   by_cases hm:m=[]
   · subst hm
     simp only[List.length_nil,List.flatMap_nil,Nat.zero_mul] at hlen hf mR xG
     refine ⟨.aI,h,?_,y,Nat.le_refl _,a,.inl ⟨.inl rfl,rfl⟩,fun _ _ _ g=>g,fun _ _ q=>q⟩
     simp only[bf,t0,t1,hs,hx,hi,az.size,hb,hlen,hf,o_,hz,mR,xG,if_true,if_false,and_self,List.length_nil,Bool.false_eq_true,Nat.zero_mul]
   · obtain ⟨h',n,q1,q2,q3,q4,q5⟩:=O5 hm
     have IX:¬m.length=0:=fun e=>hm (List.length_eq_zero_iff.1 e)
     refine ⟨_,h',?_,q1,q2,q3,q4,fun i w _ g=>q5 i w g,fun k hk _=>bA.sl o!⟩
     simp only[bf,t0,t1,hs,hx,hi,az.size,hb,hlen,hf,o_,hz,mR,xG,IX,Tu m.length o!,n,if_true,if_false,and_self,Bool.false_eq_true]
 · rw[List.nil_append]
   by_cases hm:m=[]
   · subst hm
     simp only[List.length_nil,List.flatMap_nil,Nat.zero_mul] at hlen hf mR xG
     obtain ⟨q1,q2,q3⟩:=uz hg
     refine ⟨_,_,?_,q1,Nat.le_refl _,q2,.inl ⟨.inr ⟨p,rfl,hp,q3 _ _ hg⟩,rfl⟩,fun i w _ g=>q3 i w g,fun _ _ q=>q⟩
     simp only[bf,t0,t1,hs,hx,hi,az.size,hb,hlen,hf,o_,hz,mR,xG,hg,if_true,if_false,and_self,List.length_nil,Bool.false_eq_true,Nat.zero_mul,Nat.add_zero,Nat.le_refl,List.flatMap_nil,setFrom]
   · obtain ⟨h',n,q1,q2,q3,q4,q5⟩:=O5 hm
     have IX:¬m.length≤0:=fun e=>hm (List.length_eq_zero_iff.1 o!)
     refine ⟨_,h',?_,q1,q2,q3,q4,fun i w _ g=>q5 i w g,fun k hk _=>bA.sl o!⟩
     simp only[bf,t0,t1,hs,hx,hi,az.size,hb,hlen,hf,o_,hz,mR,xG,hg,IX,if_true,if_false,and_self,Bool.false_eq_true,Nat.zero_mul,Nat.add_zero,Nat.zero_add,List.length_nil,Nat.le_refl]
     rw[if_pos ⟨Tu m.length o!,trivial,fun e=>e.elim⟩]
     simp only[List.drop_nil,List.take_nil,List.nil_append,n]
 · have hlp:0<l.length:=List.length_pos_iff.2 hn
   have hpx:=y _ _ hg
   have MS:=bP az.len l
   by_cases hm:m=[]
   · subst hm
     simp only[List.length_nil,List.flatMap_nil,Nat.zero_mul] at hlen hf mR xG
     obtain ⟨q1,q2,q3⟩:=uz hg
     rw[List.append_nil]
     refine ⟨_,_,?_,q1,Nat.le_refl _,q2,.inr ⟨hn,p,op,rfl,hp,q3 _ _ hg⟩,fun i w _ g=>q3 i w g,fun _ _ q=>q⟩
     simp only[bf,t0,t1,hs,hx,hi,az.size,hb,hlen,hf,o_,hz,mR,xG,hg,MS,if_true,if_false,and_self,List.length_nil,Bool.false_eq_true,Nat.zero_mul,Nat.add_zero,Nat.zero_add,Nat.le_refl,List.flatMap_nil,setFrom]
   · have Zg:0<m.length:=List.length_pos_iff.2 hm
     have y2:Tidy (if op then h.put p none else h):=by
      cases op with
      | false=>exact y
      | true=>
        intro i x g
        show i<h.nx
        by_cases hi:i=p
        · subst hi;exact hpx
        · rw[if_pos rfl,au.aY (Ne.symm hi)] at g;exact y i x g
     have n2:(if op then h.put p none else h).nx=h.nx:=by cases op<;>rfl
     have k2:∀i w,i≠p→h.get i=some w→(if op then h.put p none else h).get i=some w:=fun i w hi g=>by
      cases op with
      | false=>exact g
      | true=>rw[if_pos rfl,au.aY (Ne.symm hi)];exact g
     obtain ⟨h',n⟩:=kr (h:=if op then h.put p none else h) (.cells (l.flatMap az.c++m.flatMap az.c) (az.e α) false)
     have hk:∀i w,i≠p→h.get i=some w→h'.get i=some w:=fun i w hi g=>eZ y2 n (k2 i w hi g)
     have hc:¬l.length+m.length≤l.length:=by omega
     refine ⟨.slice h.nx 0 (l.length+m.length) (l.length+m.length) true,h',?_,fM y2 n,by rw[kq n,n2];omega,fun i w g=>?_,.inr ⟨by simp [hn],h.nx,true,by rw[List.length_append],hle,by rw[List.flatMap_append,←n2];exact iD n⟩,fun i w q g=>hk i w (fun e=>q 0 l.length l.length op (by subst e;rfl)) g,fun k hk _=>bA.sl o!⟩
     · simp only[bf,t0,t1,hs,hx,hi,az.size,hb,hlen,hf,o_,hz,mR,xG,hg,hc,if_true,if_false,and_self,Bool.false_eq_true]
       rw[if_pos ⟨Tu _ hl,by rw[MS];omega,fun _=>⟨trivial,by rw[MS];omega,trivial⟩⟩]
       rw[List.drop_zero,List.take_of_length_le (by rw[MS];exact Nat.le_refl _),n]
     · have:=y0 _ _ g
       exact hk i w o! (a i w g)
theorem ba.HL {s xt:TypeId} {tys:Array TypeId} {bytes:Nat} {z0 x:AV} (y:Tidy h) (y0:Tidy h0) (a:Has h0 h) (hle:h0.nx≤h.nx) (o:ba h0 h z l) (hlen:jD x=some m.length) (hf:dP h (az.n α) m.length x=some (m.flatMap az.c)) (mR:(m.flatMap az.c).all AV.scalar=true) (hl:l.length+m.length≤1000000000)
 (t0:tys[0]? =some s) (t1:tys[1]? =some xt) (hs:env.P.underlying s=some (.slice (az.e α))) (hx:env.P.underlying xt=some (.slice (az.e α))) (hb:eK env (az.e α)=some bytes) (o_:eh env (az.e α)=some z0) (hz:z0.cells.length=az.n α) (h8:bytes≤255):
 ∃z' h',bf env h tys z x=some (z',h')∧Tidy h'∧h.nx≤h'.nx∧Has h0 h'∧ba h0 h' z' (l++m)∧(∀i w,bA z i→h.get i=some w→h'.get i=some w)∧(∀k,k<h.nx→bA z k→bA z' k):=
 ba.aan y y0 a hle o hlen hf mR hl t0 t1 hs hx hb o_ hz fun k hk=>Nat.le_trans (Nat.mul_le_mul (show 4*k+4096≤4294967296 by omega) (show bytes+1≤256 by omega)) (by decide)
theorem ba.Tv {b:Nat} {C:aR} (o:ba h0 h z l) (c:Chg h h' b C) (n:bA z b):ba h0 h' z l:=by
 rcases o with ⟨rfl | ⟨p,rfl,h1,h2⟩,rfl⟩ | ⟨hn,p,op,rfl,hp,hg⟩
 · exact .inl ⟨.inl rfl,rfl⟩
 · exact .inl ⟨.inr ⟨p,rfl,h1,c.2.2 _ _ (fun q=>n 0 _ _ false (by subst q;rfl)) h2⟩,rfl⟩
 · exact .inr ⟨hn,p,op,rfl,hp,c.2.2 _ _ (fun q=>n 0 _ _ op (by subst q;rfl)) hg⟩
theorem ba.kept {b:Nat} (o:ba h0 h z l) (c:Kept b h h') (n:bA z b):ba h0 h' z l:=by
 rcases o with ⟨rfl | ⟨p,rfl,h1,h2⟩,rfl⟩ | ⟨hn,p,op,rfl,hp,hg⟩
 · exact .inl ⟨.inl rfl,rfl⟩
 · exact .inl ⟨.inr ⟨p,rfl,h1,c _ _ (fun q=>n 0 _ _ false (by subst q;rfl)) h2⟩,rfl⟩
 · exact .inr ⟨hn,p,op,rfl,hp,c _ _ (fun q=>n 0 _ _ op (by subst q;rfl)) hg⟩
theorem ba.Tw (o:ba h0 h z l) {k:Nat} (hk:k<h0.nx):bA z k:=by
 rcases o with ⟨rfl | ⟨p,rfl,h1,_⟩,rfl⟩ | ⟨_,p,op,rfl,hp,_⟩
 · exact fun _ _ _ _ e=>by cases e
 · exact fun _ _ _ _ e=>by have:=(AV.slice.inj e).1;omega
 · exact fun _ _ _ _ e=>by have:=(AV.slice.inj e).1;omega
theorem bA.slice {p o n c:Nat} {b:Bool} {i:Nat} (h:p≠i):bA (.slice p o n c b) i:=fun _ _ _ _ e=>h (AV.slice.inj e).1
theorem ba.BS (y:Tidy h) (o:ba h0 h z l) {k:Nat} (hk:h.nx≤k):bA z k:=by
 rcases o with ⟨rfl | ⟨p,rfl,h1,h2⟩,rfl⟩ | ⟨_,p,op,rfl,_,hg⟩
 · exact bA.nil k
 · have:=y _ _ h2;exact bA.sl o!
 · have:=y _ _ hg;exact bA.sl o!
theorem ba.xA (o:ba h0 h w l) (ap:zC z w) (kp:∀i x,bA z i→h.get i=some x→h'.get i=some x):ba h0 h' w l:=by
 rcases o with ⟨rfl | ⟨p,rfl,h1,h2⟩,rfl⟩ | ⟨hn,p,op,rfl,hp,hg⟩
 · exact .inl ⟨.inl rfl,rfl⟩
 · exact .inl ⟨.inr ⟨p,rfl,h1,kp _ _ ((ap p).resolve_right fun q=>q _ _ _ _ rfl) h2⟩,rfl⟩
 · exact .inr ⟨hn,p,op,rfl,hp,kp _ _ ((ap p).resolve_right fun q=>q _ _ _ _ rfl) hg⟩
end
section
variable {α:Type} [az α] {h0 h h':au} {z z' w:AV} {l m:List α}
theorem ba.JD {n:Nat} (o:ba h0 h z l) (v:AV.within h0.nx (n+1) z=true):ba h0 h0 z l:=by
 rcases o with ⟨rfl | ⟨p,rfl,h1,h2⟩,rfl⟩ | ⟨hn,p,op,rfl,hp,hg⟩
 · exact .inl ⟨.inl rfl,rfl⟩
 · have:=of_decide_eq_true (show decide (p<h0.nx)=true from v);omega
 · have:=of_decide_eq_true (show decide (p<h0.nx)=true from v);omega
theorem yb {nx k:Nat} {cs:List AV} (h:AV.within nx (k+1) (.tuple cs)=true) {x:AV} (hx:x∈cs):AV.within nx k x=true:=List.all_eq_true.1 h x hx
end
def ey {σ ζ:Type} (call:aW) (b:Code) (s:St) (ex:gR) (hh:au) (tn:σ→ζ→(Nat→AV)→List AV) (Qn:σ→ζ→au→Prop) (v:σ):Prop:=
 ∃z y hk,Ev env call (.loop b) s ex ⟨tn v z y,hk,[],.no⟩∧Tidy hk∧hh.nx≤hk.nx∧Qn v z hk
section
variable {σ ζ:Type} {call:aW} {b:Code} {s:St} {ex:gR} {hh hk:au} {tn:σ→ζ→(Nat→AV)→List AV} {Qn:σ→ζ→au→Prop}
theorem ey.out {i:Nat} {L:List AV} {o:σ} (v:σ) (z:ζ) (e:o=v) (ev:Ev env call b s (.exit i) ⟨L,hk,[],.no⟩) (y1:Tidy hk) (n1:hh.nx≤hk.nx) (q:Qn v z hk) (hl:L=tn v z fun k=>L.getD k AV.undef):ey call b s (.exit i) hh tn Qn o:=by
 subst e
 obtain ⟨y,x⟩:=Dm (tmpl:=tn o z) (Ev.out ev) hl
 exact ⟨z,y,hk,x,y1,n1,q⟩
theorem ey.round {L:List AV} {o o':σ} (e:o=o') (ev:Ev env call b s .normal ⟨L,hk,[],.no⟩) (n1:hh.nx≤hk.nx) (w8:(Nat→AV)→List AV) (hl:L=w8 fun k=>L.getD k AV.undef) (ih:∀x,ey call b ⟨w8 x,hk,[],.no⟩ ex hk tn Qn o'):ey call b s ex hh tn Qn o:=by
 subst e
 have q:=ih fun k=>L.getD k AV.undef
 rw[←hl] at q
 obtain ⟨z,y,h2,x,y1,n2,g⟩:=q
 exact ⟨z,y,h2,Ev.loop ev x,y1,Nat.le_trans n1 n2,g⟩
end
def qG {σ ζ:Type} (call:aW) (b:Code) (s:St) (ex:gR) (hh:au) (tn:σ→ζ→(Nat→AV)→List AV) (Qn:σ→ζ→au→Prop) (tr:(Nat→AV)→List AV) (Rn:au→Prop) (v:Option σ):Prop:=
 match v with
 | some v=>ey call b s ex hh tn Qn v
 | none=>∃y hk,Ev env call (.loop b) s .ret ⟨tr y,hk,[],.no⟩∧Tidy hk∧hh.nx≤hk.nx∧Rn hk
section
variable {σ ζ:Type} {call:aW} {b:Code} {s:St} {ex:gR} {hh hk:au} {tn:σ→ζ→(Nat→AV)→List AV} {Qn:σ→ζ→au→Prop} {tr:(Nat→AV)→List AV} {Rn:au→Prop}
theorem qG.out {i:Nat} {L:List AV} {o:Option σ} (v:σ) (z:ζ) (e:o=some v) (ev:Ev env call b s (.exit i) ⟨L,hk,[],.no⟩) (y1:Tidy hk) (n1:hh.nx≤hk.nx) (q:Qn v z hk) (hl:L=tn v z fun k=>L.getD k AV.undef):qG call b s (.exit i) hh tn Qn tr Rn o:=by
 subst e;exact ey.out v z rfl ev y1 n1 q hl
theorem qG.ret {L:List AV} {o:Option σ} (e:o=none) (ev:Ev env call b s .ret ⟨L,hk,[],.no⟩) (y1:Tidy hk) (n1:hh.nx≤hk.nx) (q:Rn hk) (hl:L=tr fun k=>L.getD k AV.undef):qG call b s ex hh tn Qn tr Rn o:=by
 subst e
 obtain ⟨y,x⟩:=Dm (tmpl:=tr) (Ev.ret ev) hl
 exact ⟨y,hk,x,y1,n1,q⟩
theorem qG.round {L:List AV} {o o':Option σ} (e:o=o') (ev:Ev env call b s .normal ⟨L,hk,[],.no⟩) (n1:hh.nx≤hk.nx) (w8:(Nat→AV)→List AV) (hl:L=w8 fun k=>L.getD k AV.undef) (ih:∀x,qG call b ⟨w8 x,hk,[],.no⟩ ex hk tn Qn tr Rn o'):qG call b s ex hh tn Qn tr Rn o:=by
 subst e
 have q:=ih fun k=>L.getD k AV.undef
 rw[←hl] at q
 cases o with
 | some v=>
   obtain ⟨z,y,h2,x,y1,n2,g⟩:=q
   exact ⟨z,y,h2,Ev.loop ev x,y1,Nat.le_trans n1 n2,g⟩
 | none=>
   obtain ⟨y,h2,x,y1,n2,g⟩:=q
   exact ⟨y,h2,Ev.loop ev x,y1,Nat.le_trans n1 n2,g⟩
end
theorem ey.Pa {σ ζ:Type} {call:aW} {b:Code} {s:St} {ex:gR} {hh:au} {tn:σ→ζ→(Nat→AV)→List AV} {Qn Qn':σ→ζ→au→Prop} {v:σ} (l:ey call b s ex hh tn Qn v) (w:∀z hk,hh.nx≤hk.nx→Qn v z hk→Qn' v z hk):ey call b s ex hh tn Qn' v:=by
 obtain ⟨z,y,hk,a,b1,c,q⟩:=l
 exact ⟨z,y,hk,a,b1,c,w z hk c q⟩
def qH (rc:RC) {σ ζ:Type} (call:aW) (b:Code) (s:St) (ex:gR) (hh:au) (tn:σ→ζ→(Nat→AV)→List AV) (Qn:σ→ζ→au→Prop) (v:σ):Prop:=
 ∃z y hk,Ev env call (.loop b) s ex ⟨tn v z y,hk,[],rc⟩∧Tidy hk∧hh.nx≤hk.nx∧Qn v z hk
section
variable {rc:RC} {σ ζ:Type} {call:aW} {b:Code} {s:St} {ex:gR} {hh hk:au} {tn:σ→ζ→(Nat→AV)→List AV} {Qn:σ→ζ→au→Prop}
theorem qH.out {i:Nat} {L:List AV} {o:σ} (v:σ) (z:ζ) (e:o=v) (ev:Ev env call b s (.exit i) ⟨L,hk,[],rc⟩) (y1:Tidy hk) (n1:hh.nx≤hk.nx) (q:Qn v z hk) (hl:L=tn v z fun k=>L.getD k AV.undef):qH rc call b s (.exit i) hh tn Qn o:=by
 subst e
 refine ⟨z,fun k=>L.getD k AV.undef,hk,?_,y1,n1,q⟩
 rw[←hl];exact Ev.out ev
theorem qH.round {L:List AV} {o o':σ} (e:o=o') (ev:Ev env call b s .normal ⟨L,hk,[],rc⟩) (n1:hh.nx≤hk.nx) (w8:(Nat→AV)→List AV) (hl:L=w8 fun k=>L.getD k AV.undef) (ih:∀x,qH rc call b ⟨w8 x,hk,[],rc⟩ ex hk tn Qn o'):qH rc call b s ex hh tn Qn o:=by
 subst e
 have q:=ih fun k=>L.getD k AV.undef
 rw[←hl] at q
 obtain ⟨z,y,h2,x,y1,n2,g⟩:=q
 exact ⟨z,y,h2,Ev.loop ev x,y1,Nat.le_trans n1 n2,g⟩
end
theorem W9 (rc:RC) (d:Nat) (c:Code) (ts:List AV) (h:au) (e:gR) (h':au) {al:List lB} {ps:List Prop} (k:Pk al [] ps) (hr:run env (dw d) 300 c ⟨ts,h,[],rc⟩ al []= .at e ⟨w6 (run env (dw d) 300 c ⟨ts,h,[],rc⟩ al []),h',[],rc⟩ [] ps):Ev env (dw d) c ⟨ts,h,[],rc⟩ e ⟨w6 (run env (dw d) 300 c ⟨ts,h,[],rc⟩ al []),h',[],rc⟩:=pk_ d c ts h [] rc e h' k hr
def kF (q:aw) (l_:List cK) (t:Int):Nat→Nat→Int→Int→Int×Int
 | 0,_,rP,rQ=>(rP,rQ)
 | gB+1,i0,rP,rQ=>kF q l_ t gB (i0+1) (vS (⟨rP,rQ⟩:Span) (nG q (l_.g i0) t)).aM (vS (⟨rP,rQ⟩:Span) (nG q (l_.g i0) t)).aD
def tg (q:aw) (l_:List cK) (t:Int):Span:=(⟨(kF q l_ t (l_.length - 1) 1 (nG q (l_.g 0) t).aM (nG q (l_.g 0) t).aD).1,(kF q l_ t (l_.length - 1) 1 (nG q (l_.g 0) t).aM (nG q (l_.g 0) t).aD).2⟩:Span)
def ct (l_:List Span):Nat→Nat→List Span→Bool→Int→Int→List Span×Bool×Int×Int
 | 0,_,zA,Lg,jy,jz=>(zA,Lg,jy,jz)
 | gB+1,i0,zA,Lg,jy,jz=>(bif (decide ((IntKind.i64.wrap (((l_.g i0).aD)+1))<jy)) then ct l_ gB (i0+1) (zA++[(l_.g i0)]) Lg jy jz else (bif (decide ((IntKind.i64.wrap (jz+1))<((l_.g i0).aM))) then (bif (!Lg) then ct l_ gB (i0+1) ((zA++[(⟨jy,jz⟩:Span)])++[(l_.g i0)]) true jy jz else ct l_ gB (i0+1) (zA++[(l_.g i0)]) Lg jy jz) else ct l_ gB (i0+1) zA Lg (FH jy (l_.g i0).aM) (imax jz (l_.g i0).aD)))
def FI (l_:List Span) (x_:Span):List Span:=(bif (!((ct l_ l_.length 0 ([]:List Span) false x_.aM x_.aD).2.1)) then (((ct l_ l_.length 0 ([]:List Span) false x_.aM x_.aD).1)++([(⟨(ct l_ l_.length 0 ([]:List Span) false x_.aM x_.aD).2.2.1,(ct l_ l_.length 0 ([]:List Span) false x_.aM x_.aD).2.2.2⟩:Span)])) else (ct l_ l_.length 0 ([]:List Span) false x_.aM x_.aD).1)

def ae (k:IntKind) (a b:Int):Int:=k.wrap ((BitVec.ofInt k.bits a&&& BitVec.ofInt k.bits b).toNat:Nat)
def ak (k:IntKind) (x y:Int):Int:=x.fdiv (2^(min y.toNat k.bits))
def oq (k:IntKind) (x y:Int):Int:=k.wrap (x*2^(min y.toNat k.bits))
def aq (k:IntKind) (x y:Int):Int:=k.wrap (x+y)
theorem mA (t:TypeId) (c d:Bool) (k:IntKind) (a b:Int):bU env .and t c d (some (.int k a)) (some (.int k b))=some (.int k (ae k a b)):=by simp [bU,iJ,cF,ae]
theorem ot (t:TypeId) (c d:Bool) (k:IntKind) (a b:Int):bU env .add t c d (some (.int k a)) (some (.int k b))=some (.int k (aq k a b)):=by simp [bU,iJ,cF,aq]
theorem mB (t:TypeId) (c d:Bool) (k j:IntKind) {a b:Int} (h:0≤b):bU env .shr t c d (some (.int k a)) (some (.int j b))=some (.int k (ak k a b)):=by
 have h':¬b<0:=by omega
 simp [bU,iJ,ak,h']
theorem Pb (t:TypeId) (c d:Bool) (k j:IntKind) {a b:Int} (h:0≤b):bU env .shl t c d (some (.int k a)) (some (.int j b))=some (.int k (oq k a b)):=by
 have h':¬b<0:=by omega
 simp [bU,iJ,oq,h']
def zD (set:Int) (aC:Int):Bool:=(decide ((ae .i64 (ak .i64 set aC) 1)=1))
def fQ (l_:List aB) (q:aw) (set:Int):Nat→Nat→List cK→List cK
 | 0,_,AZ=>AZ
 | gB+1,i0,AZ=>(bif (!(zD set (l_.g i0).aC)) then fQ l_ q set gB (i0+1) (AZ++[(⟨(l_.g i0).time,(IntKind.i64.wrap ((l_.g i0).value -(eM (q.ao.g (l_.g i0).aC.toNat) (l_.g i0).time))),(IntKind.i64.wrap (((l_.g i0).value)+(eM (q.ao.g (l_.g i0).aC.toNat) (l_.g i0).time)))⟩:cK)]) else fQ l_ q set gB (i0+1) AZ)
def gM (q:aw) (l_:List aB) (set:Int):List cK:=(fQ l_ q set l_.length 0 ([(⟨0,q.ai,q.af⟩:cK)]))
def BT (set:Int):Nat→Nat→Int→Int
 | 0,_,W_=>W_
 | gB+1,i0,W_=>BT set gB (i0+1) (IntKind.i64.wrap (W_+(ae .i64 (ak .i64 set ((i0:Nat):Int)) 1)))
def HQ (set:Int):Int:=(BT set (Int.toNat 8) 0 0)

theorem mC (l:List aB) (q:aw) (s:Int):∀(k i:Nat) (v:List cK),v.length≤(fQ l q s k i v).length
 | 0,_,_=>Nat.le_refl _
 | k+1,i,v=>by
   rw[fQ]
   cases zD s (l.g i).aC with
   | true=>exact mC l q s k (i+1) v
   | false=>exact Nat.le_trans (by rw[List.length_append];exact Nat.le_add_right _ _) (mC l q s k (i+1) _)
theorem BU (q:aw) (l:List aB) (s:Int):0<(gM q l s).length:=Nat.lt_of_lt_of_le Nat.one_pos (mC l q s l.length 0 [(⟨0,q.ai,q.af⟩:cK)])
def dE (q:aw) (l_:List aB) (t:Int):Nat→Nat→List Span→List Span
 | 0,_,AZ=>AZ
 | gB+1,i0,AZ=>(bif (decide (q.bad<(HQ ((i0:Nat):Int)))) then dE q l_ t gB (i0+1) AZ else (bif (uD q (gM q l_ ((i0:Nat):Int))) then dE q l_ t gB (i0+1) (FI AZ (tg q (gM q l_ ((i0:Nat):Int)) t)) else dE q l_ t gB (i0+1) AZ))
def pg (q:aw) (l_:List aB) (t:Int):List Span:=(dE q l_ t (oq .i64 1 ((q.ao.length:Nat):Int)).toNat 0 ([]:List Span))
def uE (l:List Span) (x:Int):Prop:=∃s∈l,s.aM≤x∧x≤s.aD
inductive Canon:List Span→Prop
 | nil:Canon []
 | one (s:Span):s.aM≤s.aD→Canon [s]
 | cons (s r:Span) (l:List Span):s.aM≤s.aD→s.aD+1<r.aM→Canon (r::l)→Canon (s::r::l)
theorem Canon.tail {s:Span} {l:List Span} (c:Canon (s::l)):Canon l:=by
 cases c with
 | one=>exact .nil
 | cons _ _ _ _ _ c=>exact c
theorem Canon.head {s:Span} {l:List Span} (c:Canon (s::l)):s.aM≤s.aD:=by cases c<;>assumption
theorem Canon.beyond {l:List Span}:∀{s:Span},Canon (s::l)→∀r∈l,s.aD+1<r.aM:=by
 induction l with
 | nil=>intro s _ r hr;cases hr
 | cons a l ih=>
   intro s c r hr
   cases c with
   | cons _ _ _ h1 h2 c=>
     rcases List.mem_cons.1 hr with rfl | hr
     · exact h2
     · have:=ih c r hr;have:=c.head;omega
theorem Canon.mk {s:Span} {l:List Span} (h:s.aM≤s.aD) (b:∀r∈l,s.aD+1<r.aM) (c:Canon l):Canon (s::l):=by
 cases l with
 | nil=>exact .one s h
 | cons a l=>exact .cons s a l h (b a (List.mem_cons_self ..)) c
theorem dI {s:Span} {l:List Span} {x:Int}:uE (s::l) x↔(s.aM≤x∧x≤s.aD)∨uE l x:=by
 constructor
 · rintro ⟨r,hr,h⟩
   rcases List.mem_cons.1 hr with rfl | hr
   · exact .inl h
   · exact .inr ⟨r,hr,h⟩
 · rintro (h | ⟨r,hr,h⟩)
   · exact ⟨s,List.mem_cons_self ..,h⟩
   · exact ⟨r,List.mem_cons_of_mem _ hr,h⟩
theorem yd {x:Int}:¬uE [] x:=by rintro ⟨_,h,_⟩;cases h
theorem Canon.ends {s:Span} {l:List Span} (c:Canon (s::l)):uE (s::l) s.aM∧uE (s::l) s.aD∧¬uE (s::l) (s.aD+1)∧∀x,x<s.aM→¬uE (s::l) x:=by
 have hh:=c.head
 have hb:=c.beyond
 refine ⟨dI.2 (.inl ⟨Int.le_refl _,hh⟩),dI.2 (.inl ⟨hh,Int.le_refl _⟩),fun h=>?_,fun x hx h=>?_⟩
 · rcases dI.1 h with h | ⟨r,hr,h⟩
   · omega
   · have:=hb r hr;omega
 · rcases dI.1 h with h | ⟨r,hr,h⟩
   · omega
   · have:=hb r hr;omega
theorem Pd {a b:Span} (h1:a.aM=b.aM) (h2:a.aD=b.aD):a=b:=by
 cases a;cases b;simp only at h1 h2;rw[h1,h2]
theorem th:∀{l m:List Span},Canon l→Canon m→(∀x,uE l x↔uE m x)→l=m
 | [],[],_,_,_=>rfl
 | [],r::m,_,c,h=>absurd ((h r.aM).2 c.ends.1) yd
 | s::l,[],c,_,h=>absurd ((h s.aM).1 c.ends.1) yd
 | s::l,r::m,c,d,h=>by
   obtain ⟨c1,c2,c3,c4⟩:=c.ends
   obtain ⟨d1,d2,d3,d4⟩:=d.ends
   have lo:s.aM=r.aM:=by
    have a:¬s.aM<r.aM:=fun q=>d4 _ q ((h _).1 c1)
    have b:¬r.aM<s.aM:=fun q=>c4 _ q ((h _).2 d1)
    omega
   have hi:s.aD=r.aD:=by
    have hs:=c.head;have hr:=d.head
    have a:¬s.aD<r.aD:=fun q=>c3 ((h _).2 (dI.2 (.inl ⟨by omega,by omega⟩)))
    have b:¬r.aD<s.aD:=fun q=>d3 ((h _).1 (dI.2 (.inl ⟨by omega,by omega⟩)))
    omega
   have e:=Pd lo hi
   subst e
   rw[th c.tail d.tail fun x=>?_]
   have hx:=h x
   rw[dI,dI] at hx
   have cb:=c.beyond;have db:=d.beyond
   constructor
   · intro q
     rcases hx.1 (.inr q) with w | w
     · obtain ⟨r,hr,w2⟩:=q;have:=cb r hr;omega
     · exact w
   · intro q
     rcases hx.2 (.inr q) with w | w
     · obtain ⟨r,hr,w2⟩:=q;have:=db r hr;omega
     · exact w
def JE:List Span→Int→Int→List Span
 | [],a,b=> [⟨a,b⟩]
 | s::R,a,b=>if s.aD+1<a then s::JE R a b else if b+1<s.aM then ⟨a,b⟩::s::R else JE R (min a s.aM) (max b s.aD)
theorem zG:∀{l:List Span} {a b:Int},Canon l→a≤b→Canon (JE l a b)∧(∀x,uE (JE l a b) x↔uE l x∨(a≤x∧x≤b))∧∀s∈JE l a b,a≤s.aM∨∃r∈l,r.aM≤s.aM
 | [],a,b,_,h=>by
   refine ⟨.one _ h,fun x=>?_,fun s hs=>?_⟩
   · rw[JE,dI];simp [yd]
   · rw[JE,List.mem_singleton] at hs;subst hs;exact .inl (Int.le_refl _)
 | s::R,a,b,c,h=>by
   have hs:=c.head;have hb:=c.beyond
   rw[JE]
   split
   · rename_i q
     obtain ⟨i1,i2,i3⟩:=zG (a:=a) (b:=b) c.tail h
     refine ⟨Canon.mk hs (fun r hr=>?_) i1,fun x=>?_,fun r hr=>?_⟩
     · rcases i3 r hr with w | ⟨r',Ed,w⟩
       · omega
       · have:=hb r' Ed;omega
     · rw[dI,i2,dI,or_assoc]
     · rcases List.mem_cons.1 hr with rfl | hr
       · exact .inr ⟨r,List.mem_cons_self ..,Int.le_refl _⟩
       · rcases i3 r hr with w | ⟨r',Ed,w⟩
         · exact .inl w
         · exact .inr ⟨r',List.mem_cons_of_mem _ Ed,w⟩
   · split
     · rename_i q1 q2
       refine ⟨.cons _ _ _ h q2 c,fun x=>?_,fun r hr=>?_⟩
       · rw[dI];exact Or.comm
       · rcases List.mem_cons.1 hr with rfl | hr
         · exact .inl (Int.le_refl _)
         · exact .inr ⟨r,hr,Int.le_refl _⟩
     · rename_i q1 q2
       obtain ⟨i1,i2,i3⟩:=zG (l:=R) (a:=min a s.aM) (b:=max b s.aD) c.tail o!
       refine ⟨i1,fun x=>?_,fun r hr=>?_⟩
       · rw[i2,dI]
         constructor
         · rintro (w | w)
           · exact .inl (.inr w)
           · by_cases e:a≤x∧x≤b
             · exact .inr e
             · exact .inl (.inl ⟨by omega,by omega⟩)
         · rintro ((w | w) | w)
           · exact .inr ⟨by omega,by omega⟩
           · exact .inl w
           · exact .inr ⟨by omega,by omega⟩
       · rcases i3 r hr with w | ⟨r',Ed,w⟩
         · by_cases e:a≤s.aM
           · exact .inl o!
           · exact .inr ⟨s,List.mem_cons_self ..,by omega⟩
         · exact .inr ⟨r',List.mem_cons_of_mem _ Ed,w⟩
def MX:Span→List Span→List Span
 | c,[]=> [c]
 | c,s::R=>if s.aM≤c.aD+1 then MX ⟨c.aM,max c.aD s.aD⟩ R else c::MX s R
theorem zH:∀{l:List Span} {c:Span},c.aM≤c.aD→(∀s∈l,s.aM≤s.aD)→(∀s∈l,c.aM≤s.aM)→List.Pairwise (fun s r:Span=>s.aM≤r.aM) l→
 Canon (MX c l)∧(∀x,uE (MX c l) x↔(c.aM≤x∧x≤c.aD)∨uE l x)∧∀s∈MX c l,c.aM≤s.aM
 | [],c,h,_,_,_=>by
   refine ⟨.one _ h,fun x=>?_,fun s hs=>?_⟩
   · rw[MX,dI]
   · rw[MX,List.mem_singleton] at hs;subst hs;exact Int.le_refl _
 | s::R,c,h,hn,hc,hp=>by
   have h1:=hn s (List.mem_cons_self ..);have h2:=hc s (List.mem_cons_self ..)
   obtain ⟨p1,p2⟩:=List.pairwise_cons.1 hp
   rw[MX]
   split
   · rename_i q
     obtain ⟨i1,i2,i3⟩:=zH (l:=R) (c:=⟨c.aM,max c.aD s.aD⟩) (by show c.aM≤max c.aD s.aD;omega) (fun r hr=>hn r (List.mem_cons_of_mem _ hr)) (fun r hr=>hc r (List.mem_cons_of_mem _ hr)) p2
     refine ⟨i1,fun x=>?_,i3⟩
     rw[i2,dI]
     show (c.aM≤x∧x≤max c.aD s.aD)∨uE R x↔_
     constructor
     · rintro (w | w)
       · by_cases e:x≤c.aD
         · exact .inl ⟨w.1,e⟩
         · exact .inr (.inl ⟨by omega,by omega⟩)
       · exact .inr (.inr w)
     · rintro (w | w | w)
       · exact .inl ⟨w.1,by omega⟩
       · exact .inl ⟨by omega,by omega⟩
       · exact .inr w
   · rename_i q
     obtain ⟨i1,i2,i3⟩:=zH (l:=R) (c:=s) h1 (fun r hr=>hn r (List.mem_cons_of_mem _ hr)) p1 p2
     refine ⟨Canon.mk h (fun r hr=>?_) i1,fun x=>?_,fun r hr=>?_⟩
     · have:=i3 r hr;omega
     · rw[dI,i2,dI]
     · rcases List.mem_cons.1 hr with rfl | hr
       · exact Int.le_refl _
       · have:=i3 r hr;omega
theorem uF (x y:Int):FH x y=min x y:=by unfold FH;split<;>omega
theorem ph (x y:Int):imax x y=max x y:=by unfold imax;split<;>omega
def Bd (s:Span):Prop:= -4611686018427387904≤s.aM∧s.aM≤4611686018427387904∧-4611686018427387904≤s.aD∧s.aD≤4611686018427387904
theorem HS {α:Type} [Inhabited α] {l:List α} {i:Nat} (h:i<l.length):l.drop i=l.g i::l.drop (i+1):=by
 rw[List.drop_eq_getElem_cons h,List.g,List.getD_eq_getElem?_getD,List.getElem?_eq_getElem h];rfl
theorem Pe {l:List Span} {a b:Int}:∀(k i:Nat) (o:List Span),i+k=l.length→(∀s∈l.drop i,b+1<s.aM)→(∀s∈l.drop i,Bd s)→-4611686018427387904≤b→b≤4611686018427387904→ct l k i o true a b=(o++l.drop i,true,a,b)
 | 0,i,o,h,_,_,_,_=>by rw[ct,List.drop_eq_nil_of_le o!,List.append_nil]
 | k+1,i,o,h,hb,hd,b1,b2=>by
   have e:=HS (l:=l) (i:=i) o!
   rw[e] at hb hd
   have ih:=Pe (l:=l) (a:=a) (b:=b) k (i+1) (o++[l.g i]) o! (fun s hs=>hb s (List.mem_cons_of_mem _ hs)) (fun s hs=>hd s (List.mem_cons_of_mem _ hs)) b1 b2
   have h1:=hb _ (List.mem_cons_self ..)
   rw[ct,wrap_i64 (n:=b+1) o! o!,decide_eq_true h1,ih,e,List.append_assoc,List.singleton_append]
   cases decide (IntKind.i64.wrap ((l.g i).aD+1)<a)<;>rfl
def fin (r:List Span×Bool×Int×Int):List Span:=bif !r.2.1 then r.1++[(⟨r.2.2.1,r.2.2.2⟩:Span)] else r.1
theorem HU {l:List Span}:∀(k i:Nat) (o:List Span) (a b:Int),i+k=l.length→Canon (l.drop i)→(∀s∈l.drop i,Bd s)→a≤b→Bd ⟨a,b⟩→fin (ct l k i o false a b)=o++JE (l.drop i) a b
 | 0,i,o,a,b,h,_,_,_,_=>by rw[ct,List.drop_eq_nil_of_le o!];rfl
 | k+1,i,o,a,b,h,hc,hd,hab,⟨b1,b2,b3,b4⟩=>by
   have e:=HS (l:=l) (i:=i) o!
   rw[e] at hc hd ⊢
   obtain ⟨d1,d2,d3,d4⟩:=hd _ (List.mem_cons_self ..)
   simp only at b1 b2 b3 b4
   rw[ct,wrap_i64 (n:=(l.g i).aD+1) o! o!,wrap_i64 (n:=b+1) o! o!,JE]
   by_cases q1:(l.g i).aD+1<a
   · rw[decide_eq_true q1,if_pos q1]
     show fin (ct l k (i+1) (o++[l.g i]) false a b)=_
     rw[HU k (i+1) _ a b o! hc.tail (fun s hs=>hd s (List.mem_cons_of_mem _ hs)) hab ⟨b1,b2,b3,b4⟩,List.append_assoc,List.singleton_append]
   · rw[decide_eq_false q1,if_neg q1]
     by_cases q2:b+1<(l.g i).aM
     · rw[decide_eq_true q2,if_pos q2]
       show fin (ct l k (i+1) ((o++[(⟨a,b⟩:Span)])++[l.g i]) true a b)=_
       have hh:=hc.head
       rw[Pe k (i+1) _ o! (fun s hs=>by have:=hc.beyond s hs;omega) (fun s hs=>hd s (List.mem_cons_of_mem _ hs)) b3 b4]
       show ((o++[(⟨a,b⟩:Span)])++[l.g i])++l.drop (i+1)=_
       simp
     · rw[decide_eq_false q2,if_neg q2]
       show fin (ct l k (i+1) o false (FH a (l.g i).aM) (imax b (l.g i).aD))=_
       rw[uF,ph]
       exact HU k (i+1) o _ _ o! hc.tail (fun s hs=>hd s (List.mem_cons_of_mem _ hs)) (by have:=hc.head;omega) ⟨by simp only;omega,by simp only;omega,by simp only;omega,by simp only;omega⟩
theorem Li {l:List Span} {x:Span} (hc:Canon l) (hd:∀s∈l,Bd s) (hx:x.aM≤x.aD) (hb:Bd x):FI l x=JE l x.aM x.aD:=by
 have h:=HU (l:=l) l.length 0 [] x.aM x.aD o! (by rw[List.drop_zero];exact hc) (by rw[List.drop_zero];exact hd) hx hb
 rw[List.drop_zero,List.nil_append] at h
 exact h
theorem HV:∀{l:List Span} {a b:Int},(∀s∈l,Bd s)→Bd ⟨a,b⟩→∀s∈JE l a b,Bd s
 | [],a,b,_,h,s,hs=>by rw[JE,List.mem_singleton] at hs;subst hs;exact h
 | r::R,a,b,hd,h,s,hs=>by
   have hr:=hd r (List.mem_cons_self ..);have hR:=fun q hq=>hd q (List.mem_cons_of_mem r hq)
   rw[JE] at hs
   split at hs
   · rcases List.mem_cons.1 hs with rfl | hs
     · exact hr
     · exact HV hR h s hs
   · split at hs
     · rcases List.mem_cons.1 hs with rfl | hs
       · exact h
       · exact hd s hs
     · obtain ⟨a1,a2,a3,a4⟩:=h;obtain ⟨c1,c2,c3,c4⟩:=hr
       simp only at a1 a2 a3 a4
       exact HV hR ⟨by simp only;omega,by simp only;omega,by simp only;omega,by simp only;omega⟩ s hs
def fm (f r:Int) (k:cK) (t:Int):Span:=if k.time≤t then ⟨k.aj - f*(t - k.time),k.ah+r*(t - k.time)⟩ else ⟨k.aj - r*(k.time - t),k.ah+f*(k.time - t)⟩
def KB (k:cK):Prop:=(0≤k.time∧k.time≤100000)∧-1000000000000≤k.aj∧k.aj≤1000000000000∧-1000000000000≤k.ah∧k.ah≤1000000000000
theorem iT {f x:Int} (h0:0≤f) (h1:f≤10000) (h2:0≤x) (h3:x≤100000):0≤f*x∧f*x≤1000000000:=by
 refine ⟨Int.mul_nonneg h0 h2,?_⟩
 calc f*x≤10000*x:=Int.mul_le_mul_of_nonneg_right h1 h2
  _≤1000000000:=by omega
theorem uG {q:aw} {k:cK} {t:Int} (f0:0≤q.aJ) (f1:q.aJ≤10000) (r0:0≤q.aH) (r1:q.aH≤10000) (hk:KB k) (t0:0≤t) (t1:t≤100000):nG q k t=fm q.aJ q.aH k t∧Bd (fm q.aJ q.aH k t):=by
 obtain ⟨⟨a,b⟩,c,d,e,g⟩:=hk
 rw[nG,fm]
 by_cases h:k.time≤t
 · obtain ⟨m1,m2⟩:=iT f0 f1 (x:=t - k.time) o! o!
   obtain ⟨m3,m4⟩:=iT r0 r1 (x:=t - k.time) o! o!
   rw[decide_eq_true h,if_pos h,ax,wrap_i64 (n:=t - k.time) o! o!,wrap_i64 (n:=q.aJ*(t - k.time)) o! o!,wrap_i64 (n:=q.aH*(t - k.time)) o! o!,wrap_i64 (n:=k.aj - q.aJ*(t - k.time)) o! o!,wrap_i64 (n:=k.ah+q.aH*(t - k.time)) o! o!]
   exact ⟨rfl,by simp only;omega,by simp only;omega,by simp only;omega,by simp only;omega⟩
 · obtain ⟨m1,m2⟩:=iT f0 f1 (x:=k.time - t) o! o!
   obtain ⟨m3,m4⟩:=iT r0 r1 (x:=k.time - t) o! o!
   rw[decide_eq_false h,if_neg h,ar,wrap_i64 (n:=k.time - t) o! o!,wrap_i64 (n:=q.aH*(k.time - t)) o! o!,wrap_i64 (n:=q.aJ*(k.time - t)) o! o!,wrap_i64 (n:=k.aj - q.aH*(k.time - t)) o! o!,wrap_i64 (n:=k.ah+q.aJ*(k.time - t)) o! o!]
   exact ⟨rfl,by simp only;omega,by simp only;omega,by simp only;omega,by simp only;omega⟩
def me (f r:Int) (K:List cK):Prop:=∀i∈K,∀k∈K,max (fm f r i k.time).aM k.aj≤min (fm f r i k.time).aD k.ah
theorem zI {f r:Int} {K:List cK} (h:me f r K) {i k:cK} (hi:i∈K) (hk:k∈K):(fm f r i k.time).aM≤k.ah∧k.aj≤(fm f r i k.time).aD∧k.aj≤k.ah:=by
 have:=h i hi k hk;omega
theorem zJ {f r:Int} {K:List cK} (f0:0≤f) (r0:0≤r) (h:me f r K) (t:Int) {i k:cK} (hi:i∈K) (hk:k∈K):(fm f r i t).aM≤(fm f r k t).aD:=by
 obtain ⟨a1,a2,a3⟩:=zI h hi hk
 obtain ⟨b1,b2,b3⟩:=zI h hk hi
 have M:∀(c x y:Int),0≤c→x≤y→c*x≤c*y:=fun c x y hc hx=>Int.mul_le_mul_of_nonneg_left hx hc
 unfold fm at a1 a2 b1 b2 ⊢
 split at a1<;>split at b1<;>split<;>split<;>simp only[Int.mul_sub] at * <;>first
  | omega
  | (have:=M f i.time k.time f0;have:=M f k.time i.time f0;have:=M r i.time k.time r0;have:=M r k.time i.time r0
     have:=M f i.time t f0;have:=M f t i.time f0;have:=M f k.time t f0;have:=M f t k.time f0
     have:=M r i.time t r0;have:=M r t i.time r0;have:=M r k.time t r0;have:=M r t k.time r0
     omega)
theorem Xa {α:Type} [Inhabited α] {l:List α} {P:α→Prop}:(∀x∈l,P x)↔∀i,i<l.length→P (l.g i):=by
 constructor
 · intro h i hi;exact h _ (by rw[List.g,List.getD_eq_getElem?_getD,List.getElem?_eq_getElem hi];exact List.getElem_mem hi)
 · intro h x hx
   obtain ⟨i,hi,rfl⟩:=List.mem_iff_getElem.1 hx
   have:=h i hi
   rwa [List.g,List.getD_eq_getElem?_getD,List.getElem?_eq_getElem hi] at this
def pj (q:aw) (l:List cK) (i j:Nat):Bool:=uC (vS (nG q (l.g i) (l.g j).time) (⟨(l.g j).aj,(l.g j).ah⟩:Span))
theorem Vj (l:List cK) (q:aw) (i0:Nat):∀(k i:Nat),(my l q i0 k i=none∧∀j,i≤j→j<i+k→pj q l i0 j=false)∨(my l q i0 k i=some false∧∃j,i≤j∧j<i+k∧pj q l i0 j=true)
 | 0,i=> .inl ⟨rfl,fun j a b=>by omega⟩
 | k+1,i=>by
   rw[my]
   show ((bif pj q l i0 i then some false else _)=none∧_)∨_
   cases e:pj q l i0 i with
   | true=>exact .inr ⟨by rw[show uC _=true from e];rfl,i,Nat.le_refl _,by omega,e⟩
   | false=>
     rw[show uC _=false from e]
     rcases Vj l q i0 k (i+1) with ⟨h1,h2⟩ | ⟨h1,j,h2,h3,h4⟩
     · refine .inl ⟨h1,fun j a b=>?_⟩
       by_cases ej:j=i
       · rw[ej];exact e
       · exact h2 j o! o!
     · exact .inr ⟨h1,j,by omega,by omega,h4⟩
theorem Vk (l:List cK) (q:aw):∀(k i:Nat),(mz l q k i=none∧∀j,i≤j→j<i+k→∀m,m<l.length→pj q l j m=false)∨(mz l q k i=some false∧∃j m,i≤j∧j<i+k∧m<l.length∧pj q l j m=true)
 | 0,i=> .inl ⟨rfl,fun j a b=>by omega⟩
 | k+1,i=>by
   rw[mz]
   rcases Vj l q i l.length 0 with ⟨h1,h2⟩ | ⟨h1,m,_,h3,h4⟩
   · rw[h1]
     rcases Vk l q k (i+1) with ⟨h5,h6⟩ | ⟨h5,j,m,h6,h7,h8,h9⟩
     · refine .inl ⟨h5,fun j a b m hm=>?_⟩
       by_cases ej:j=i
       · rw[ej];exact h2 m (Nat.zero_le _) o!
       · exact h6 j o! o! m hm
     · exact .inr ⟨h5,j,m,by omega,by omega,h8,h9⟩
   · rw[h1];exact .inr ⟨rfl,i,m,Nat.le_refl _,by omega,by omega,h4⟩
section
variable {q:aw} (f0:0≤q.aJ) (f1:q.aJ≤10000) (r0:0≤q.aH) (r1:q.aH≤10000) {l:List cK} (hl:∀k∈l,KB k)
include f0 f1 r0 r1 hl
theorem FK {i j:Nat} (hi:i<l.length) (hj:j<l.length):pj q l i j=false↔max (fm q.aJ q.aH (l.g i) (l.g j).time).aM (l.g j).aj≤min (fm q.aJ q.aH (l.g i) (l.g j).time).aD (l.g j).ah:=by
 have kj:=hl _ (jT hj)
 rw[pj,(uG f0 f1 r0 r1 (hl _ (jT hi)) kj.1.1 kj.1.2).1,uC,vS]
 simp only[uF,ph,decide_eq_false_iff_not,Int.not_lt]
theorem FL:uD q l=true↔me q.aJ q.aH l:=by
 have key:me q.aJ q.aH l↔∀i,i<l.length→∀j,j<l.length→pj q l i j=false:=by
  unfold me
  constructor
  · intro h i hi j hj;exact (FK f0 f1 r0 r1 hl hi hj).2 (h _ (jT hi) _ (jT hj))
  · intro h
    rw[Xa];intro i hi;rw[Xa];intro j hj
    exact (FK f0 f1 r0 r1 hl hi hj).1 (h i hi j hj)
 rw[key,uD]
 rcases Vk l q l.length 0 with ⟨h1,h2⟩ | ⟨h1,j,m,h2,h3,h4,h5⟩
 · rw[h1];exact ⟨fun _ i hi j hj=>h2 i (Nat.zero_le _) o! j hj,fun _=>rfl⟩
 · rw[h1]
   refine ⟨fun h=>(by cases h),fun h=>?_⟩
   rw[h j o! m h4] at h5;cases h5
variable {t:Int} (t0:0≤t) (t1:t≤100000)
include t0 t1
theorem Vl:∀(k i:Nat) (a b:Int),i+k=l.length→(∃c∈l,a=(fm q.aJ q.aH c t).aM)→(∃c∈l,b=(fm q.aJ q.aH c t).aD)→
 (∃c∈l,(kF q l t k i a b).1=(fm q.aJ q.aH c t).aM)∧(∃c∈l,(kF q l t k i a b).2=(fm q.aJ q.aH c t).aD)∧a≤(kF q l t k i a b).1∧(kF q l t k i a b).2≤b∧∀j,i≤j→j<l.length→(fm q.aJ q.aH (l.g j) t).aM≤(kF q l t k i a b).1∧(kF q l t k i a b).2≤(fm q.aJ q.aH (l.g j) t).aD
 | 0,i,a,b,h,ha,hb=>⟨ha,hb,Int.le_refl _,Int.le_refl _,fun j p q=>by omega⟩
 | k+1,i,a,b,h,ha,hb=>by
   have hi:i<l.length:=by omega
   rw[kF,(uG f0 f1 r0 r1 (hl _ (jT hi)) t0 t1).1,vS]
   simp only[uF,ph]
   obtain ⟨x1,x2,x3,x4,x5⟩:=Vl k (i+1) (max a (fm q.aJ q.aH (l.g i) t).aM) (min b (fm q.aJ q.aH (l.g i) t).aD) o!
    (by
     by_cases e:a≤(fm q.aJ q.aH (l.g i) t).aM
     · exact ⟨_,jT hi,by omega⟩
     · obtain ⟨c,h1,h2⟩:=ha;exact ⟨c,h1,by omega⟩)
    (by
     by_cases e:(fm q.aJ q.aH (l.g i) t).aD≤b
     · exact ⟨_,jT hi,by omega⟩
     · obtain ⟨c,h1,h2⟩:=hb;exact ⟨c,h1,by omega⟩)
   refine ⟨x1,x2,by omega,by omega,fun j p q'=>?_⟩
   by_cases e:j=i
   · subst e;exact ⟨by omega,by omega⟩
   · exact x5 j o! q'
theorem aaq (hn:0<l.length):(∃c∈l,(tg q l t).aM=(fm q.aJ q.aH c t).aM)∧(∃c∈l,(tg q l t).aD=(fm q.aJ q.aH c t).aD)∧∀c∈l,(fm q.aJ q.aH c t).aM≤(tg q l t).aM∧(tg q l t).aD≤(fm q.aJ q.aH c t).aD:=by
 have e0:=(uG f0 f1 r0 r1 (hl _ (jT hn)) t0 t1).1
 rw[tg,e0]
 obtain ⟨x1,x2,x3,x4,x5⟩:=Vl f0 f1 r0 r1 hl t0 t1 (l.length - 1) 1 _ _ o! ⟨_,jT hn,rfl⟩ ⟨_,jT hn,rfl⟩
 refine ⟨x1,x2,?_⟩
 rw[Xa];intro j hj
 by_cases e:j=0
 · subst e;exact ⟨x3,x4⟩
 · exact x5 j o! hj
theorem at_mem (hn:0<l.length) (ha:me q.aJ q.aH l):(tg q l t).aM≤(tg q l t).aD∧Bd (tg q l t)∧∀x,((tg q l t).aM≤x∧x≤(tg q l t).aD)↔∀c∈l,(fm q.aJ q.aH c t).aM≤x∧x≤(fm q.aJ q.aH c t).aD:=by
 obtain ⟨⟨c,hc,e1⟩,⟨d,hd,e2⟩,h⟩:=aaq f0 f1 r0 r1 hl t0 t1 hn
 obtain ⟨b1,b2,b3,b4⟩:=(uG f0 f1 r0 r1 (hl _ hc) t0 t1).2
 obtain ⟨c1,c2,c3,c4⟩:=(uG f0 f1 r0 r1 (hl _ hd) t0 t1).2
 refine ⟨by rw[e1,e2];exact zJ f0 r0 ha t hc hd,⟨by omega,by omega,by omega,by omega⟩,fun x=>⟨fun hx k hk=>?_,fun hx=>?_⟩⟩
 · have:=h k hk;omega
 · have:=hx c hc;have:=hx d hd;omega
end
theorem HW {n:Int} (h:rO n=true):0≤n∧n≤100000:=by
 rw[rO] at h
 by_cases a:0≤n
 · rw[decide_eq_true a] at h;exact ⟨a,of_decide_eq_true h⟩
 · rw[decide_eq_false a] at h;cases h
theorem rvalue {n:Int} (h:nj n=true): -1000000000≤n∧n≤1000000000:=by
 rw[nj] at h
 by_cases a: -1000000000≤n
 · rw[decide_eq_true a] at h;exact ⟨a,of_decide_eq_true h⟩
 · rw[decide_eq_false a] at h;cases h
theorem Pf {b:Bool} (h:(!b)=false):b=true:=by cases b;cases h;rfl
theorem Pg (q:aw):∀(k i:Nat),bC q k i=none→∀j,i≤j→j<i+k→bK (q.ao.g j)=0
 | 0,i,_,j,a,b=>by omega
 | k+1,i,h,j,a,b=>by
   rw[bC] at h
   cases h1:jV (q.ao.g i).name with
   | false=>rw[h1] at h;cases h
   | true=>
     rw[h1] at h
     simp only[Bool.not_true,ar] at h
     cases h2:bE i q i 0 with
     | some r=>rw[h2] at h;cases h
     | none=>
       rw[h2] at h
       by_cases e:bK (q.ao.g i)=0
       · rw[decide_eq_true e] at h
         by_cases ej:j=i
         · rw[ej];exact e
         · exact Pg q k (i+1) h j o! o!
       · rw[decide_eq_false e] at h;cases h
theorem JF (q:aw):∀(k i:Nat),(∀j,j<i+k→True)→bC q k i≠some 0
 | 0,i,_,h=>by cases h
 | k+1,i,_,h=>by
   rw[bC] at h
   cases h1:jV (q.ao.g i).name with
   | false=>rw[h1] at h;cases h
   | true=>
     rw[h1] at h
     simp only[Bool.not_true,ar] at h
     have l1:∀(k' i':Nat),bE i q k' i'≠some 0:=by
      intro k'
      induction k' with
      | zero=>intro i' h;cases h
      | succ k' ih=>
        intro i' h
        rw[bE] at h
        cases hq:decide ((q.ao.g i').name=(q.ao.g i).name) with
        | true=>rw[hq] at h;cases h
        | false=>rw[hq] at h;exact ih _ h
     cases h2:bE i q i 0 with
     | some r=>rw[h2] at h;exact l1 _ _ (h2.trans h)
     | none=>
       rw[h2] at h
       by_cases e:bK (q.ao.g i)=0
       · rw[decide_eq_true e] at h;exact JF q k (i+1) (fun _ _=>trivial) h
       · rw[decide_eq_false e] at h;exact e (Option.some.inj h)
structure RF (q:aw) (l:List aB):Prop where
 start: -1000000000≤q.ai∧q.ai≤q.af∧q.af≤1000000000
 FM:0≤q.aH∧q.aH≤10000∧0≤q.aJ∧q.aJ≤10000
 bad:0≤q.bad∧q.bad≤(q.ao.length:Int)∧q.ao.length≤8
 aC:∀j,j<q.ao.length→0≤(q.ao.g j).acc∧(q.ao.g j).acc≤1000000000∧0≤(q.ao.g j).b6∧(q.ao.g j).b6≤1000000000∧0≤(q.ao.g j).since∧(q.ao.g j).since≤100000
 nm:l.length≤64
 read:∀i,i<l.length→(0≤(l.g i).aC∧(l.g i).aC<(q.ao.length:Int))∧(0≤(l.g i).time∧(l.g i).time≤100000)∧-1000000000≤(l.g i).value∧(l.g i).value≤1000000000
theorem JG {q:aw} {l:List aB} (h:bY q l=0):RF q l:=by
 rw[bY] at h
 by_cases e:bB q=0
 · rw[decide_eq_true e,ax] at h
   by_cases e2:(64:Int)<((l.length:Nat):Int)
   · rw[decide_eq_true e2,ax] at h
     exact absurd (pf q l _ _ _ h).1 (by decide)
   · rw[decide_eq_false e2,ar] at h
     have hr:=(pf q l _ _ _ h).2
     rw[bB] at e
     obtain ⟨_,e⟩:=d_ (by decide) e
     obtain ⟨a1,e⟩:=d_ (by decide) e
     obtain ⟨a2,e⟩:=d_ (by decide) e
     obtain ⟨a3,e⟩:=d_ (by decide) e
     obtain ⟨a4,e⟩:=d_ (by decide) e
     obtain ⟨a5,e⟩:=d_ (by decide) e
     obtain ⟨a6,e⟩:=d_ (by decide) e
     obtain ⟨a7,e⟩:=d_ (by decide) e
     obtain ⟨a8,e⟩:=d_ (by decide) e
     obtain ⟨a9,e⟩:=d_ (by decide) e
     obtain ⟨U',e⟩:=d_ (by decide) e
     have a1:=rvalue (Pf a1);have a2:=rvalue (Pf a2)
     have a3:=of_decide_eq_false a3;have a4:=of_decide_eq_false a4;have a5:=of_decide_eq_false a5;have a6:=of_decide_eq_false a6;have a7:=of_decide_eq_false a7;have a8:=of_decide_eq_false a8;have a9:=of_decide_eq_false a9;have U':=of_decide_eq_false U'
     have hn:bC q q.ao.length 0=none:=by
      cases hc:bC q q.ao.length 0 with
      | none=>rfl
      | some r=>rw[hc] at e;exact absurd (hc.trans (congrArg some e)) (JF q _ _ fun _ _=>trivial)
     refine ⟨⟨by omega,by omega,by omega⟩,⟨by omega,by omega,by omega,by omega⟩,⟨by omega,by omega,by omega⟩,fun j hj=>?_,by omega,fun i hi=>?_⟩
     · have g:=Pg q _ _ hn j (Nat.zero_le _) o!
       rw[bK] at g
       obtain ⟨b1,g⟩:=d_ (by decide) g
       obtain ⟨b2,g⟩:=d_ (by decide) g
       obtain ⟨b3,g⟩:=d_ (by decide) g
       obtain ⟨b4,g⟩:=d_ (by decide) g
       obtain ⟨b5,g⟩:=d_ (by decide) g
       have b1:=of_decide_eq_false b1;have b2:=of_decide_eq_false b2;have b3:=of_decide_eq_false b3;have b4:=of_decide_eq_false b4;have b5:=HW (Pf b5)
       omega
     · have k:=hr i (Nat.zero_le _) o!
       rw[ch] at k
       obtain ⟨k1,k⟩:=d_ (by decide) k
       obtain ⟨k2,k⟩:=d_ (by decide) k
       obtain ⟨k3,k⟩:=d_ (by decide) k
       obtain ⟨k4,k⟩:=d_ (by decide) k
       have k1:=of_decide_eq_false k1;have k2:=of_decide_eq_false k2;have k3:=HW (Pf k3);have k4:=rvalue (Pf k4)
       omega
 · rw[decide_eq_false e,ar] at h
   exact absurd (pf q l _ _ _ h).1 e
theorem HX {x y m:Int} (h1:x≤m) (h2:y≤m):imax x y≤m∧y≤imax x y:=by unfold imax;split<;>omega
theorem uH {g:aE} {t:Int} (h:0≤g.acc∧g.acc≤1000000000∧0≤g.b6∧g.b6≤1000000000∧0≤g.since∧g.since≤100000) (t0:0≤t) (t1:t≤100000):0≤eM g t∧eM g t≤102000000000:=by
 obtain ⟨a1,a2,a3,a4,a5,a6⟩:=h
 rw[eM,wrap_i64 (n:=t - g.since) o! o!]
 obtain ⟨m1,m2⟩:=HX (x:=t - g.since) (y:=0) (m:=100000) o! o!
 generalize imax (t - g.since) 0=m at m1 m2 ⊢
 rw[wrap_i64 (n:=m+999) o! o!,Int.tdiv_eq_ediv_of_nonneg o!]
 rw[wrap_i64 (n:=(m+999) /1000) o! o!]
 have d1:0≤(m+999) /1000:=by omega
 have d2:(m+999) /1000≤100:=by omega
 generalize (m+999) /1000=d at d1 d2 ⊢
 have p1:0≤g.b6*d:=Int.mul_nonneg a3 d1
 have p2:g.b6*d≤100000000000:=by
  calc g.b6*d≤1000000000*d:=Int.mul_le_mul_of_nonneg_right a4 d1
   _≤100000000000:=by omega
 rw[wrap_i64 (n:=g.b6*d) o! o!,wrap_i64 (n:=g.acc+g.b6*d) o! o!]
 omega
def D3 (q:aw) (r:aB):cK:=⟨r.time,r.value - eM (q.ao.g r.aC.toNat) r.time,r.value+eM (q.ao.g r.aC.toNat) r.time⟩
def Vm (q:aw):cK:=⟨0,q.ai,q.af⟩
theorem zK {q:aw} {l:List aB} (f:RF q l) (s:Int):∀(k i:Nat) (v:List cK),i+k=l.length→∀c,c∈fQ l q s k i v↔c∈v∨∃j,i≤j∧j<l.length∧zD s (l.g j).aC=false∧c=D3 q (l.g j)
 | 0,i,v,h,c=>by
   rw[fQ]
   exact ⟨.inl,fun h'=>h'.elim id fun ⟨j,a,b,_⟩=>by omega⟩
 | k+1,i,v,h,c=>by
   have hi:i<l.length:=by omega
   obtain ⟨⟨g1,g2⟩,⟨g3,g4⟩,g5,g6⟩:=f.read i hi
   obtain ⟨w1,w2⟩:=uH (f.aC (l.g i).aC.toNat o!) g3 g4
   rw[fQ]
   cases e:zD s (l.g i).aC with
   | true=>
     show c∈fQ l q s k (i+1) v↔_
     rw[zK f s k (i+1) v o! c]
     constructor
     · rintro (w | ⟨j,a,b,w⟩)
       · exact .inl w
       · exact .inr ⟨j,by omega,b,w⟩
     · rintro (w | ⟨j,a,b,w⟩)
       · exact .inl w
       · refine .inr ⟨j,?_,b,w⟩
         rcases Nat.lt_or_eq_of_le a with q1 | q1
         · omega
         · subst q1;rw[e] at w;cases w.1
   | false=>
     show c∈fQ l q s k (i+1) (v++[_])↔_
     rw[wrap_i64 (n:=(l.g i).value - eM (q.ao.g (l.g i).aC.toNat) (l.g i).time) o! o!,wrap_i64 (n:=(l.g i).value+eM (q.ao.g (l.g i).aC.toNat) (l.g i).time) o! o!,zK f s k (i+1) _ o! c,List.mem_append,List.mem_singleton]
     constructor
     · rintro ((w | w) | ⟨j,a,b,w⟩)
       · exact .inl w
       · exact .inr ⟨i,Nat.le_refl _,hi,e,w⟩
       · exact .inr ⟨j,by omega,b,w⟩
     · rintro (w | ⟨j,a,b,w⟩)
       · exact .inl (.inl w)
       · rcases Nat.lt_or_eq_of_le a with q1 | q1
         · exact .inr ⟨j,by omega,b,w⟩
         · subst q1;exact .inl (.inr w.2)
theorem BW {q:aw} {l:List aB} (f:RF q l) (s:Int) (c:cK):c∈gM q l s↔c=Vm q∨∃j,j<l.length∧zD s (l.g j).aC=false∧c=D3 q (l.g j):=by
 rw[gM,zK f s _ 0 _ o! c,List.mem_singleton]
 exact or_congr Iff.rfl ⟨fun ⟨j,_,b⟩=>⟨j,b⟩,fun ⟨j,b⟩=>⟨j,Nat.zero_le _,b⟩⟩
theorem HY {q:aw} {l:List aB} (f:RF q l) {j:Nat} (hj:j<l.length):KB (D3 q (l.g j)):=by
 obtain ⟨⟨g1,g2⟩,⟨g3,g4⟩,g5,g6⟩:=f.read j hj
 obtain ⟨w1,w2⟩:=uH (f.aC (l.g j).aC.toNat o!) g3 g4
 exact ⟨⟨g3,g4⟩,by simp only[D3];omega,by simp only[D3];omega,by simp only[D3];omega,by simp only[D3];omega⟩
theorem uI {q:aw} {l:List aB} (f:RF q l) (s:Int):∀c∈gM q l s,KB c:=fun c hc=>by
 rcases (BW f s c).1 hc with rfl | ⟨j,hj,_,rfl⟩
 · have:=f.start;exact ⟨⟨by simp [Vm],by simp [Vm]⟩,by simp only[Vm];omega,by simp only[Vm];omega,by simp only[Vm];omega,by simp only[Vm];omega⟩
 · exact HY f hj
def sz (s:Nat):Nat:=((List.range 8).filter fun j=>s.testBit j).length
theorem Ty {s:Nat} (h:s<256):HQ ((s:Nat):Int)=(sz s:Int):=by
 have:∀s,s<256→HQ ((s:Nat):Int)=(sz s:Int):=by decide+kernel
 exact this s h
theorem Pj {s:Nat} {g:Int} (h:s<256) (g0:0≤g) (g1:g<8):zD ((s:Nat):Int) g=s.testBit g.toNat:=by
 have:∀s,s<256→∀g,g<8→zD ((s:Nat):Int) ((g:Nat):Int)=s.testBit g:=by decide+kernel
 obtain ⟨k,rfl⟩:∃k:Nat,g=k:=⟨g.toNat,by omega⟩
 exact this s h k o!
theorem Xb {n:Nat} (h:n≤8):(oq .i64 1 ((n:Nat):Int)).toNat=2^n:=by
 have:∀n,n<9→(oq .i64 1 ((n:Nat):Int)).toNat=2^n:=by decide+kernel
 exact this n o!
theorem ye {n:Nat} (h:n≤8):2^n≤256:=by
 have:=Nat.pow_le_pow_right (n:=2) (by decide) h
 exact this
def Vn (n s:Nat):Bool:=(List.range n).any fun j=>decide (s+2^j<2^n)&&(sz (s+2^j)==sz s+1)&&(List.range 8).all fun i=> !s.testBit i||(s+2^j).testBit i
theorem Pl:((List.range 9).all fun n=>(List.range (2^n)).all fun s=> !decide (sz s<n)||Vn n s)=true:=by decide+kernel
theorem Tz {n s:Nat} (hn:n≤8) (hs:s<2^n) (h:sz s<n):∃s',s'<2^n∧sz s'=sz s+1∧∀i,i<8→s.testBit i=true→s'.testBit i=true:=by
 have a:=List.all_eq_true.1 (List.all_eq_true.1 Pl n (List.mem_range.2 o!)) s (List.mem_range.2 hs)
 rw[decide_eq_true h] at a
 obtain ⟨j,_,hj⟩:=List.any_eq_true.1 (show Vn n s=true from a)
 rw[Bool.and_eq_true,Bool.and_eq_true] at hj
 refine ⟨_,of_decide_eq_true hj.1.1,eq_of_beq hj.1.2,fun i hi hb=>?_⟩
 have c:=List.all_eq_true.1 hj.2 i (List.mem_range.2 hi)
 rw[hb] at c;exact c
theorem Pm {n b:Nat} (hn:n≤8) (hb:b≤n):∀(k s:Nat),s<2^n→sz s+k=b→∃s',s'<2^n∧sz s'=b∧∀i,i<8→s.testBit i=true→s'.testBit i=true
 | 0,s,hs,h=>⟨s,hs,h,fun _ _ h=>h⟩
 | k+1,s,hs,h=>by
   obtain ⟨s1,a1,a2,a3⟩:=Tz hn hs o!
   obtain ⟨s2,b1,b2,b3⟩:=Pm hn hb k s1 a1 o!
   exact ⟨s2,b1,b2,fun i hi h=>b3 i hi (a3 i hi h)⟩
def KS (q:aw) (l:List aB) (s:Nat) (c:cK):Prop:=c=Vm q∨∃j,j<l.length∧s.testBit (l.g j).aC.toNat=false∧c=D3 q (l.g j)
theorem jb {q:aw} {l:List aB} (f:RF q l) {s:Nat} (hs:s<256) (c:cK):c∈gM q l ((s:Nat):Int)↔KS q l s c:=by
 rw[BW f]
 refine or_congr Iff.rfl ⟨fun ⟨j,a,b,c⟩=>⟨j,a,?_,c⟩,fun ⟨j,a,b,c⟩=>⟨j,a,?_,c⟩⟩
 · have:=(f.read j a).1;have:=f.bad;rw[←Pj hs o! o!];exact b
 · have:=(f.read j a).1;have:=f.bad;rw[Pj hs o! o!];exact b
def ti (q:aw) (l:List aB) (s:Nat):Prop:=∀i,KS q l s i→∀k,KS q l s k→max (fm q.aJ q.aH i k.time).aM k.aj≤min (fm q.aJ q.aH i k.time).aD k.ah
def Lj (q:aw) (l:List aB) (s:Nat) (t x:Int):Prop:=∀c,KS q l s c→(fm q.aJ q.aH c t).aM≤x∧x≤(fm q.aJ q.aH c t).aD
theorem yf {q:aw} {l:List aB} (f:RF q l) {s s':Nat} (h:∀i,i<8→s.testBit i=true→s'.testBit i=true) {c:cK} (k:KS q l s' c):KS q l s c:=by
 rcases k with k | ⟨j,a,b,c⟩
 · exact .inl k
 · refine .inr ⟨j,a,?_,c⟩
   have:=(f.read j a).1;have:=f.bad
   cases e:s.testBit (l.g j).aC.toNat with
   | false=>rfl
   | true=>rw[h _ o! e] at b;cases b
theorem Pn {q:aw} {l:List aB} (f:RF q l) (t x:Int):(∃s,s<2^q.ao.length∧(sz s:Int)≤q.bad∧ti q l s∧Lj q l s t x)↔∃s,s<2^q.ao.length∧(sz s:Int)=q.bad∧ti q l s∧Lj q l s t x:=by
 obtain ⟨b0,b1,b2⟩:=f.bad
 constructor
 · rintro ⟨s,h1,h2,h3,h4⟩
   obtain ⟨s',a1,a2,a3⟩:=Pm b2 (b:=q.bad.toNat) o! (q.bad.toNat - sz s) s h1 o!
   exact ⟨s',a1,by omega,fun i hi k hk=>h3 i (yf f a3 hi) k (yf f a3 hk),fun c hc=>h4 c (yf f a3 hc)⟩
 · rintro ⟨s,h1,h2,h3,h4⟩
   exact ⟨s,h1,by omega,h3,h4⟩
theorem JH {q:aw} {l:List aB} (f:RF q l) {s:Nat} (hs:s<256):uD q (gM q l ((s:Nat):Int))=true↔ti q l s:=by
 obtain ⟨r0,r1,f0,f1⟩:=f.FM
 rw[FL f0 f1 r0 r1 (uI f _)]
 exact ⟨fun h i hi k hk=>h i ((jb f hs i).2 hi) k ((jb f hs k).2 hk),fun h i hi k hk=>h i ((jb f hs i).1 hi) k ((jb f hs k).1 hk)⟩
theorem Dr {q:aw} {l:List aB} (f:RF q l) {t:Int} (t0:0≤t) (t1:t≤100000):∀(k i:Nat) (v:List Span),i+k=2^q.ao.length→Canon v→(∀s∈v,Bd s)→
 Canon (dE q l t k i v)∧∀x,uE (dE q l t k i v) x↔uE v x∨∃s,i≤s∧s<2^q.ao.length∧(sz s:Int)≤q.bad∧ti q l s∧Lj q l s t x
 | 0,i,v,h,c,b=>by
   rw[dE]
   exact ⟨c,fun x=>⟨.inl,fun w=>w.elim id fun ⟨s,a,b,_⟩=>by omega⟩⟩
 | k+1,i,v,h,c,b=>by
   obtain ⟨b0,b1,b2⟩:=f.bad
   obtain ⟨r0,r1,f0,f1⟩:=f.FM
   have hi:i<256:=by have:=ye b2;omega
   have skip:(¬((sz i:Int)≤q.bad∧ti q l i))→Canon (dE q l t k (i+1) v)∧∀x,uE (dE q l t k (i+1) v) x↔uE v x∨∃s,i≤s∧s<2^q.ao.length∧(sz s:Int)≤q.bad∧ti q l s∧Lj q l s t x:=fun hn=>by
    obtain ⟨x1,x2⟩:=Dr f t0 t1 k (i+1) v o! c b
    refine ⟨x1,fun x=>(x2 x).trans (or_congr Iff.rfl ⟨fun ⟨s,a,w⟩=>⟨s,by omega,w⟩,fun ⟨s,a,w,w2,w3,w4⟩=>⟨s,?_,w,w2,w3,w4⟩⟩)⟩
    rcases Nat.lt_or_eq_of_le a with e | e
    · omega
    · subst e;exact absurd ⟨w2,w3⟩ hn
   rw[dE,Ty hi]
   by_cases e1:q.bad<(sz i:Int)
   · rw[decide_eq_true e1];exact skip fun w=>by omega
   · rw[decide_eq_false e1,ar]
     cases e2:uD q (gM q l ((i:Nat):Int)) with
     | false=>exact skip fun w=>by rw[(JH f hi).2 w.2] at e2;cases e2
     | true=>
       have ex:=(JH f hi).1 e2
       obtain ⟨m1,m2,m3⟩:=at_mem f0 f1 r0 r1 (uI f ((i:Nat):Int)) t0 t1 (BU q l ((i:Nat):Int)) ((FL f0 f1 r0 r1 (uI f _)).1 e2)
       rw[ax,Li c b m1 m2]
       obtain ⟨j1,j2,_⟩:=zG (l:=v) c m1
       obtain ⟨x1,x2⟩:=Dr f t0 t1 k (i+1) _ o! j1 (HV b m2)
       refine ⟨x1,fun x=>?_⟩
       rw[x2,j2,m3]
       have vi:(∀c∈gM q l ((i:Nat):Int),(fm q.aJ q.aH c t).aM≤x∧x≤(fm q.aJ q.aH c t).aD)↔Lj q l i t x:=⟨fun h c hc=>h c ((jb f hi c).2 hc),fun h c hc=>h c ((jb f hi c).1 hc)⟩
       rw[vi]
       constructor
       · rintro ((w | w) | ⟨s,a,w⟩)
         · exact .inl w
         · exact .inr ⟨i,Nat.le_refl _,by omega,by omega,ex,w⟩
         · exact .inr ⟨s,by omega,w⟩
       · rintro (w | ⟨s,a,w1,w2,w3,w4⟩)
         · exact .inl (.inl w)
         · rcases Nat.lt_or_eq_of_le a with e | e
           · exact .inr ⟨s,by omega,w1,w2,w3,w4⟩
           · subst e;exact .inl (.inr w4)
theorem xa {q:aw} {l:List aB} (f:RF q l) {t:Int} (t0:0≤t) (t1:t≤100000):Canon (pg q l t)∧∀x,uE (pg q l t) x↔∃s,s<2^q.ao.length∧(sz s:Int)=q.bad∧ti q l s∧Lj q l s t x:=by
 rw[pg,Xb f.bad.2.2]
 obtain ⟨x1,x2⟩:=Dr f t0 t1 (2^q.ao.length) 0 [] o! .nil (fun s hs=>by cases hs)
 refine ⟨x1,fun x=>?_⟩
 rw[x2,←Pn f]
 exact ⟨fun w=>w.elim (fun w=>absurd w yd) fun ⟨s,_,w⟩=>⟨s,w⟩,fun ⟨s,w⟩=> .inr ⟨s,Nat.zero_le _,w⟩⟩
end
end Go.Proofs.aK
