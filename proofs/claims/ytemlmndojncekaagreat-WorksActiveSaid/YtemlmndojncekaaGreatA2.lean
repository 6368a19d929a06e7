import Derived.Laws.BitsLemmas
import Derived.Laws.RangeString
import Derived.Defers
import Derived.AtR
import Derived.RangeFuncNested
import Derived.Test.YtemlmndojncekaaGreatA1
set_option linter.unusedVariables false
set_option linter.unusedSimpArgs false
section
namespace Go.Ab
variable {E:Env}
def UZ (E:Env) (φ:Ph) (h:aC) (w:World) (r:Result Value) (v:AV) (h':aC):Prop:=
 ∃φ' w' v',r= .ok v' w'∧VR φ' v v'∧OK E φ' h' w'∧Fr φ h w φ' h' w'
theorem FN {φ:Ph} {vs:List AV} {tN:List Value} (h:LR φ vs tN) (hs:vs.all AV.scalar=true):∀v∈tN,v.oneCell'=true:=by
 intro v hv
 obtain ⟨i,hi⟩:=List.getElem?_of_mem hv
 have hil:i<vs.length:=by rw[h.1];exact (List.getElem?_eq_some_iff.1 hi).1
 have:=h.2 i vs[i] v (by simp [hil]) hi
 exact this.scalar (List.all_eq_true.1 hs _ (List.getElem_mem hil))
theorem CA {φ:Ph} {h:aC} {w:World} (ok:OK E φ h w) {i:Nat} {cs:List AV} {e:TypeId} (hg:h.get i=some (.cells cs e false)) {l:Loc} (hφ:φ i=some l)
 {vs:List AV} {tN:List Value} (hl:LR φ vs tN) (o:Nat) (hle:o+vs.length≤cs.length) (FP:vs.all AV.scalar=true):
 ∃w',(storeCells ⟨l.iR,l.off+o,none⟩ tN).run E.P w= .ok () w'∧OK E φ (h.put i (some (.cells (setFrom cs o vs) e false))) w'∧
  Fr φ h w φ (h.put i (some (.cells (setFrom cs o vs) e false))) w':=by
 obtain ⟨C,e',lo,hi,hb,hc⟩:=ok.cells hg hφ
 have M1:=hc.size
 have hlen:=hl.1
 have ju:=yP (P:=E.P) hb (l.off+o) tN (by omega) (fun k h1 h2=>hc.free rfl k (by omega) (by omega)) (FN hl FP)
 refine ⟨_,ju,?_⟩
 obtain ⟨h1,h2,h3⟩:=v7 tN w l.iR (l.off+o)
 refine ok.change hg rfl hφ ?_ (fun c f'=>lY tN (Ne.symm f') _) (rS _ _ _ _) h1 h2 h3
 refine ⟨lX C (l.off+o) tN,e',lo,hi,rR tN hb _,?_,fun k x hk=>?_,fun _ k a b=>hc.free rfl k a (by rw[qx] at b;exact b),fun h=>by cases h⟩
 · rw[qx,v5];exact M1
 · rw[mS] at hk
   rw[zw]
   split at hk
   · rename_i M_
     rw[if_pos (by omega)]
     obtain ⟨y,hy,hr⟩:=hl.get hk
     exact ⟨y,by rw[show l.off+k -(l.off+o)=k - o by omega];exact hy,hr⟩
   · rename_i M_
     have hkl:k<cs.length:=(List.getElem?_eq_some_iff.1 hk).1
     rw[if_neg (by omega)]
     exact hc.val k x hk
theorem Qs {φ:Ph} {h h':aC} {w:World} (ok:OK E φ h w) {t:TypeId} {av xv:AV} {a' x':Value} (ha:VR φ av a') (hx:VR φ xv x') (e:dV E h t av xv=some h'):
 ∃w',(Instr.storeAt t a' x').run E.P w= .ok () w'∧OK E φ h' w'∧Fr φ h w φ h' w':=by
 unfold dV at e
 split at e
 · rename_i i o
   cases ha with
   | @ptr _ l _ hφ=>
   split at e
   · rename_i cs el n hg hn
     split at e
     · rename_i hc
       simp at e;subst e
       obtain ⟨w',ju,rU,vA⟩:=CA ok hg hφ hx.cells o (by omega) hc.2.2
       refine ⟨w',?_,rU,vA⟩
       have hs:x'.cells.size=n:=by have:=hx.cells.1;simp at this;omega
       simp only[Instr.storeAt,Instr.sureAddr,Sem.run_bind,Sem.run_pure,Result.andThen_ok,storeVar,fv hn,hs,ne_eq,not_true_eq_false,if_false,ju]
     · simp at e
   · simp at e
 · simp at e
theorem FQ {φ:Ph} {h:aC} {w:World} (ok:OK E φ h w) {size n:Nat} {x:AV} {x':Value} (hx:VR φ x x') {new:List AV} (e:ic h size n x=some new) (hn:yw x=some n∨True):
 ∃vB:List Value,LR φ new vB∧∀w',w'.heap=w.heap→(Builtin.firstCells size n x').run E.P w'= .ok vB.toArray w':=by
 unfold ic at e
 split at e
 · split at e
   · rename_i h0
     simp at e;subst e
     cases hx
     exact ⟨[],LR.nil φ,fun w' _=>by simp [Builtin.firstCells]⟩
   · simp at e
 · split at e
   · rename_i h0
     simp at e;subst e
     cases hx
     exact ⟨[],LR.nil φ,fun w' _=>by subst h0;simp only[Builtin.firstCells,Nat.zero_mul];rfl⟩
   · simp at e
 · rename_i i o len _ _
   split at e
   · split at e
     · rename_i h0
       simp at e;subst e
       cases hx
       exact ⟨[],LR.nil φ,fun w' _=>by subst h0;simp only[Builtin.firstCells,Nat.zero_mul];rfl⟩
     · split at e
       · rename_i cs el ro hg
         split at e
         · rename_i hle
           simp at e;subst e
           cases hx with
           | @slice _ l _ _ _ _ hφ=>
           obtain ⟨C,e',lo,hi,hb,hc⟩:=ok.cells hg hφ
           obtain ⟨vs,hvl,P0,DE⟩:=hc.range o (n*size) hle
           refine ⟨vs,DE,fun w' hw=>?_⟩
           rw[←hw] at hb
           have FJ:=pS (P:=E.P) hb (l.off+o) vs P0
           rw[hvl] at FJ
           simp only[Builtin.firstCells,FJ]
         · simp at e
       · simp at e
   · simp at e
 · rename_i s
   split at e
   · rename_i vO
     simp at e;subst e
     generalize Qm:AV.str s=s0 at hx
     cases hx<;>cases Qm
     rename_i s'
     refine ⟨(s'.data.toList.take n).map (fun b=>Value.int .u8 b.toNat),⟨by simp,fun i p q hp hq=>?_⟩,fun w' _=>?_⟩
     · rw[←List.map_take,List.getElem?_map] at hp
       rw[List.getElem?_map] at hq
       cases hb:(s'.data.toList.take n)[i]? with
       | none=>rw[hb] at hp;simp at hp
       | some b=>
         rw[hb] at hp hq
         simp at hp hq
         subst hp;subst hq
         exact .int _ _
     · simp only[Builtin.firstCells,Sem.run_pure]
       congr 1
       apply Array.ext'
       simp
   · simp at e
 · simp at e
end Go.Ab
namespace Go.Ab
variable {E:Env}
theorem OK.reuse {φ:Ph} {h h':aC} {w w':World} (ok:OK E φ h w) {i:Nat} {o o':aM} {l l':Loc} (hg:h.get i=some o) (MQ:o.rw=true) (hl:φ i=some l) (hb:l'.iR=l.iR)
 (hn:(h.put i none).new o'=some h') (ho:OR E (φ.add h.nx l') o' l' w'.heap[l.iR]?) (v8:∀c,c≠l.iR→w'.heap[c]? =w.heap[c]?) (hS:w'.heap.size=w.heap.size)
 (hos:w'.os=w.os) (M3:w'.tape=w.tape) (sw:w'.output=w.output):
 OK E (φ.add h.nx l') h' w'∧Fr φ h w (φ.add h.nx l') h' w':=by
 obtain ⟨oa,hnx,FD,hold⟩:=aC.m8 hn
 have hpn:(h.put i none).nx=h.nx:=rfl
 rw[hpn] at hnx FD hold
 have H_:φ h.nx=none:=by
  cases e:φ h.nx with
  | none=>rfl
  | some m=>exact absurd (ok.E1 _ _ e) (Nat.lt_irrefl _)
 have hle:φ.le (φ.add h.nx l'):=fun j m hm=>by
  unfold Ph.add;split
  · rename_i e;subst e;rw[H_] at hm;simp at hm
  · exact hm
 have iH:∀j p,h'.get j=some p→(j=h.nx∧p=o')∨(j≠h.nx∧j≠i∧h.get j=some p):=fun j p hj=>by
  by_cases e:j=h.nx
  · subst e;rw[FD] at hj;simp at hj;exact .inl ⟨rfl,hj.symm⟩
  · rw[hold j e] at hj
    by_cases e':i=j
    · subst e';rw[aC.dP] at hj;simp at hj
    · rw[aC.cu e'] at hj;exact .inr ⟨e,Ne.symm e',hj⟩
 have lZ:∀j,j≠h.nx→(φ.add h.nx l') j=φ j:=fun j hj=>by simp [Ph.add,hj]
 have iZ:(φ.add h.nx l') h.nx=some l':=by simp [Ph.add]
 refine ⟨⟨fun j m hm=>?_,?_,fun g hg=>hle _ _ (ok.AP g hg),fun j p m hj hm=>?_,fun j k p q m n hj hk hm vz hw hbb=>?_⟩,
  ⟨hle,fun j hj=>lZ j (by omega),by omega,hos,M3,sw,Nat.le_of_eq hS.symm,fun b _ hn'=>v8 b (fun e=>hn' i o l hg MQ hl e.symm),fun j p m hj hr hm=>?_⟩⟩
 · rw[hnx]
   by_cases e:j=h.nx
   · omega
   · rw[lZ j e] at hm;have:=ok.E1 j m hm;omega
 · have:=ok.nx;omega
 · rcases iH j p hj with ⟨rfl,rfl⟩ | ⟨f',Kw,sx⟩
   · rw[iZ] at hm;simp at hm;subst hm;exact hb▸ho
   · rw[lZ j f'] at hm
     rw[v8 _ (fun e=>Kw (ok.inj j i p o m l sx hg hm hl (.inr MQ) e))]
     exact (ok.live j p m sx hm).mono hle
 · rcases iH j p hj with ⟨rfl,rfl⟩ | ⟨f',hni,sx⟩<;>rcases iH k q hk with ⟨rfl,rfl⟩ | ⟨Kw,alA,Ig⟩
   · rfl
   · rw[iZ] at hm;simp at hm;subst hm
     rw[lZ k Kw] at vz
     exact absurd (ok.inj k i q o n l Ig hg vz hl (.inr MQ) (hbb.symm.trans hb)) alA
   · rw[iZ] at vz;simp at vz;subst vz
     rw[lZ j f'] at hm
     exact absurd (ok.inj j i p o m l sx hg hm hl (.inr MQ) (hbb.trans hb)) hni
   · rw[lZ j f'] at hm;rw[lZ k Kw] at vz;exact ok.inj _ _ _ _ _ _ sx Ig hm vz hw hbb
 · rcases iH j p hj with ⟨rfl,rfl⟩ | ⟨f',hni,sx⟩
   · rw[iZ] at hm;simp at hm;subst hm;exact .inr ⟨i,o,l,hg,MQ,hl,hb.symm⟩
   · rw[lZ j f'] at hm;exact .inr ⟨j,p,m,sx,hr,hm,rfl⟩
theorem Jj:∀(rounds c Qt:Nat),c<Qt→Builtin.growBy Qt rounds c≤2*Qt+1000
 | 0,c,n,h=>by simp [Builtin.growBy];omega
 | r+1,c,n,h=>by
   simp only[Builtin.growBy]
   split
   · omega
   · by_cases hc:c+(c+768) /4<n
     · exact Jj r _ n hc
     · cases r with
       | zero=>simp only[Builtin.growBy];omega
       | succ r=>simp only[Builtin.growBy];rw[if_pos (by omega)];omega
theorem nextslicecap_le {n c:Nat} (h:c<n):Builtin.nextslicecap n c≤4*n+4096:=by
 unfold Builtin.nextslicecap
 split
 · omega
 · split
   · omega
   · have:=Jj 4 c n h;omega
theorem qA (z:Array Value) (n:Nat):(Builtin.zeroCells z n).size=n*z.size:=by simp [Builtin.zeroCells]
theorem ve {P:Program} {w:World} {sT xT ty elem:TypeId} {xd:TypeDesc} (hs:P.underlying sT=some (.slice elem)) (hx:P.underlying xT=some xd) (hxd:∀k,xd≠ .int k)
 {size bytes n:Nat} (hS:(P.info? elem).map (·.size)=some size) (m9:(P.info? elem).map (·.bytes)=some bytes) {z:Value} (hz:∀w,(zeroValue elem).run P w= .ok z w) (hzs:z.cells.size=size)
 {base:Option Addr} {len cap:Nat} {x':Value} (hn:∀w,(Builtin.lenOf x').run P w= .ok n w) {old new:List Value} (hold:∀w',w'.heap=w.heap→(Builtin.firstCells size len (.slice base len cap)).run P w'= .ok old.toArray w')
 (FD:∀w',w'.heap=w.heap→(Builtin.firstCells size n x').run P w'= .ok new.toArray w') (oa:cap<len+n) (hsm:(4*(len+n)+4096)*(bytes+1)≤1099511627776) (hol:old.length=len*size) (Xt:new.length=n*size):
 ∃nc:Nat,∃C:Array Value,len+n≤nc∧(∃rest,C.toList=old++new++rest)∧C.size=nc*size∧
  (Builtin.append_ #[sT,xT] ty #[.slice base len cap,x']).run P w= .ok (.slice (some ⟨w.heap.size,0,none⟩) (len+n) nc) (w.drew.alloc (.cells C elem)):=by
 let nc:=(Question.appendCap (len+n) cap elem).cut (w.tape w.drawn (.appendCap (len+n) cap elem))
 have Xu:len+n≤nc:=by show len+n≤len+n+_;omega
 let C:Array Value:=old.toArray++new.toArray++Builtin.zeroCells z.cells (nc -(len+n))
 refine ⟨nc,C,Xu,⟨(Builtin.zeroCells z.cells (nc -(len+n))).toList,by simp [C]⟩,?_,?_⟩
 · simp only[C,Array.size_append,qA,hzs,List.size_toArray,hol,Xt]
   rw[←Nat.add_mul,←Nat.add_mul];congr 1;omega
 · obtain ⟨inf,M9,hb⟩:=sy m9 w
   obtain ⟨alB,Xv,hb'⟩:=sy m9 w.drew
   have hxm:(match xd with | .int _=>true | _=>false)=false:=by cases xd<;>first | rfl | exact absurd rfl (hxd _)
   have afH:¬len+n≤cap:=by omega
   have afI:=nextslicecap_le oa
   have hmul:(4*(len+n)+4096)*(bytes+1)=(4*(len+n)+4096)*bytes+(4*(len+n)+4096):=by rw[Nat.mul_add,Nat.mul_one]
   have Qu:¬Builtin.nextslicecap (len+n) cap*bytes>2^48:=by
    have:Builtin.nextslicecap (len+n) cap*bytes≤(4*(len+n)+4096)*bytes:=Nat.mul_le_mul_right _ afI
    omega
   have afJ:IntKind.i64.max=9223372036854775807:=by decide
   have Qv:¬(((len+n:Nat):Int) >IntKind.i64.max):=by rw[afJ];omega
   have o1:=hold w.drew rfl
   have n1:=FD w.drew rfl
   have z1:=hz w.drew
   have hf:((!false)=true)=True:=by simp
   simp only[Builtin.append_,List.getElem?_toArray,List.getElem?_cons_zero,List.getElem?_cons_succ,Sem.run_bind,Sem.run_pure,Result.andThen_ok,run_underlying hs,run_underlying hx,fv hS,Bool.false_eq_true,if_false,hn,afH,M9]
   rw[if_neg (fun h=>Qv h.1)]
   simp only[Sem.run_bind,M9,hb,Result.andThen_ok]
   rw[if_neg Qu]
   simp only[Sem.run_bind,run_choose,Question.forced,Bool.false_eq_true,if_false,World.drew_eq,Result.andThen_ok,Xv,run_askRoom,o1,hf,if_true,n1,z1,newRow,run_newObj,World.alloc_eq,Sem.run_pure]
   rfl
theorem sG {P:Program} {w w':World} {sT xT ty elem:TypeId} {xd:TypeDesc} (hs:P.underlying sT=some (.slice elem)) (hx:P.underlying xT=some xd) (hxd:∀k,xd≠ .int k)
 {size n:Nat} (hS:(P.info? elem).map (·.size)=some size) {b O len cap:Nat} {x':Value} (hn:∀w,(Builtin.lenOf x').run P w= .ok n w) {new:List Value}
 (FD:(Builtin.firstCells size n x').run P w= .ok new.toArray w) (hle:len+n≤cap) (kO:(storeCells ⟨b,O+len*size,none⟩ new).run P w= .ok () w'):
 (Builtin.append_ #[sT,xT] ty #[.slice (some ⟨b,O,none⟩) len cap,x']).run P w= .ok (.slice (some ⟨b,O,none⟩) (len+n) cap) w':=by
 have hxm:(match xd with | .int _=>true | _=>false)=false:=by cases xd<;>first | rfl | exact absurd rfl (hxd _)
 have hf:((!false)=true)=True:=by simp
 simp only[Builtin.append_,List.getElem?_toArray,List.getElem?_cons_zero,List.getElem?_cons_succ,Sem.run_bind,Sem.run_pure,Result.andThen_ok,run_underlying hs,run_underlying hx,fv hS,hf,Bool.false_eq_true,if_false,if_true,hn,hle,FD,xS,kO]
theorem AU {φ:Ph} {h h':aC} {w:World} (ok:OK E φ h w) {new:List AV} {elem:TypeId} (hn:h.new (.cells new elem false)=some h') {l:List Value} (hl:LR φ new l)
 {size nc n:Nat} (hS:ca E elem=some size) {C:Array Value} {rest:List Value} (hC:C.toList=l++rest) (WS:C.size=nc*size) (Xu:n≤nc) (hll:l.length=n*size):
 UZ E φ h w (.ok (.slice (some ⟨w.heap.size,0,none⟩) n nc) (w.drew.alloc (.cells C elem))) (.slice h.nx 0 n n true) h':=by
 have Xt:new.length=n*size:=by rw[hl.1,hll]
 obtain ⟨rU,vA,hle⟩:=ok.fresh (w':=w.drew.alloc (.cells C elem)) hn ⟨w.heap.size,0,nc - n⟩ (by
  refine ⟨C,elem,0,0,by rw[show (w.drew.alloc (.cells C elem)).heap=w.heap.push (.cells C elem) from rfl];simp,?_,fun k x hk=>?_,fun _ k _ _=>by omega,fun _ _ _=>rfl⟩
  · simp only[g_,hS,Option.getD_some,Xt,WS,Nat.zero_add]
    rw[←Nat.add_mul];exact Nat.mul_le_mul_right _ (by omega)
  · obtain ⟨y,hy,hr⟩:=hl.get hk
    have hkl:k<l.length:=(List.getElem?_eq_some_iff.1 hy).1
    refine ⟨y,?_,hr.mono (fun i m hm=>?_)⟩
    · have:C.toList[k]? =some y:=by rw[hC,List.getElem?_append_left hkl];exact hy
      simpa using this
    · unfold Ph.add
      split
      · rename_i e;subst e;exact absurd (ok.E1 _ _ hm) (Nat.lt_irrefl _)
      · exact hm)
  (fun c f' hc=>by
   have:(w.drew.alloc (.cells C elem)).heap[c]? =w.heap[c]? :=by
    rw[show (w.drew.alloc (.cells C elem)).heap=w.heap.push (.cells C elem) from rfl,Array.getElem?_push,if_neg (by simpa using f')]
   exact this) (by simp) (Nat.le_refl _) rfl rfl rfl
 refine ⟨_,_,_,rfl,?_,rU,vA⟩
 have:=VR.slice (φ:=φ.add h.nx ⟨w.heap.size,0,nc - n⟩) (i:=h.nx) (l:=⟨w.heap.size,0,nc - n⟩) 0 n n true (by simp [Ph.add])
 simp only[iY,if_true] at this
 rw[show n+(nc - n)=nc by omega] at this
 exact this
theorem Fr.abR {φ φ':Ph} {h h':aC} {w w':World} {i:Nat} (f:Fr φ (h.put i none) w φ' h' w'):Fr φ h w φ' h' w':=by
 have iH:∀j p,(h.put i none).get j=some p→h.get j=some p:=fun j p hj=>by
  by_cases e:i=j
  · subst e;rw[aC.dP] at hj;simp at hj
  · rw[aC.cu e] at hj;exact hj
 exact ⟨f.ext,f.old,f.nx,f.os,f.tape,f.output,f.size,fun b hb hn=>f.Ie b hb (fun j p m hj=>hn j p m (iH j p hj)),
  fun j p m hj hr hm=>(f.own j p m hj hr hm).imp id (fun ⟨k,q,n,a,b⟩=>⟨k,q,n,iH k q a,b⟩)⟩
theorem qB {φ:Ph} {x:AV} {n:Nat} (h:yw x=some n) {x':Value} (hx:VR φ x x') (P:Program) (w:World):(Builtin.lenOf x').run P w= .ok n w:=by
 cases x<;>simp [yw] at h
 · subst h
   generalize Qm:AV.str _=s0 at hx
   cases hx<;>cases Qm
   rfl
 · cases hx;subst h;rfl
 · cases hx;subst h;rfl
 · cases hx;subst h;rfl
theorem Ep {P:Program} {w:World} {sT xT ty elem:TypeId} {kx:IntKind} (hs:P.underlying sT=some (.slice elem)) (hx:P.underlying xT=some (.int kx))
 {size bytes:Nat} (hS:(P.info? elem).map (·.size)=some size) (m9:(P.info? elem).map (·.bytes)=some bytes) {z:Value} (hz:∀w,(zeroValue elem).run P w= .ok z w) (hzs:z.cells.size=size)
 {k:IntKind} {n:Int} (hn:0<n) (Qw:0<size) (hsm:(4*n.toNat+4096)*(bytes+1)≤1099511627776):
 ∃nc:Nat,∃C:Array Value,n.toNat≤nc∧(∃rest,C.toList=(Builtin.zeroCells z.cells n.toNat).toList++rest)∧C.size=nc*size∧
  (Builtin.append_ #[sT,xT] ty #[.slice none 0 0,.int k n]).run P w= .ok (.slice (some ⟨w.heap.size,0,none⟩) n.toNat nc) (w.drew.alloc (.cells C elem)):=by
 let nc:=(Question.appendCap (0+n.toNat) 0 elem).cut (w.tape w.drawn (.appendCap (0+n.toNat) 0 elem))
 have Xu:n.toNat≤nc:=by show n.toNat≤0+n.toNat+_;omega
 let C:Array Value:= #[]++Builtin.zeroCells z.cells n.toNat++Builtin.zeroCells z.cells (nc -(0+n.toNat))
 refine ⟨nc,C,Xu,⟨(Builtin.zeroCells z.cells (nc -(0+n.toNat))).toList,by simp [C]⟩,?_,?_⟩
 · simp only[C,Array.size_append,qA,hzs,Array.size_empty,Nat.zero_add]
   rw[←Nat.add_mul];congr 1;omega
 · obtain ⟨inf,M9,hb⟩:=sy m9 w
   obtain ⟨alB,Xv,hb'⟩:=sy m9 w.drew
   have hmul:(4*n.toNat+4096)*(bytes+1)=(4*n.toNat+4096)*bytes+(4*n.toNat+4096):=by rw[Nat.mul_add,Nat.mul_one]
   have Xt:n.toNat≤1099511627776:=by omega
   have aiI:IntKind.i64.wrap n=n:=by
    rw[IntKind.wrap_i64];omega
   have alC:¬n<0:=by omega
   have H':n*(bytes:Int)=((n.toNat*bytes:Nat):Int):=by rw[Int.natCast_mul,Int.toNat_of_nonneg (by omega)]
   have hle:n.toNat*bytes≤(4*n.toNat+4096)*bytes:=Nat.mul_le_mul_right _ (by omega)
   have aiJ:¬n*(bytes:Int) >2^48:=by rw[H'];omega
   have afH:¬0+n.toNat≤0:=by omega
   have afI:=nextslicecap_le (show 0<0+n.toNat by omega)
   have Qu:¬Builtin.nextslicecap (0+n.toNat) 0*bytes>2^48:=by
    have:Builtin.nextslicecap (0+n.toNat) 0*bytes≤(4*(0+n.toNat)+4096)*bytes:=Nat.mul_le_mul_right _ afI
    rw[Nat.zero_add] at this
    rw[Nat.zero_add]
    omega
   have afJ:IntKind.i64.max=9223372036854775807:=by decide
   have Qv:¬(((0+n.toNat:Nat):Int) >IntKind.i64.max):=by rw[afJ];omega
   have hns:¬n.toNat*size=0:=by
    have h1:0<n.toNat:=by omega
    have:=Nat.mul_pos h1 Qw;omega
   have z1:=hz w.drew
   have hf:((!true)=true)=False:=by simp
   have hai:∀w,(asInt (.int k n)).run P w= .ok n w:=fun _=>rfl
   simp only[Builtin.append_,List.getElem?_toArray,List.getElem?_cons_zero,List.getElem?_cons_succ,Sem.run_bind,Sem.run_pure,Result.andThen_ok,run_underlying hs,run_underlying hx,fv hS,if_true,hai,aiI]
   rw[if_neg alC]
   simp only[Sem.run_bind,M9,hb,Result.andThen_ok]
   rw[if_neg aiJ]
   simp only[Sem.run_bind,Sem.run_pure,Result.andThen_ok]
   rw[if_neg afH]
   simp only[Sem.run_bind,Result.andThen_ok,M9,hb]
   rw[if_neg (fun h=>Qv h.1)]
   simp only[Sem.run_bind,M9,hb,Result.andThen_ok]
   rw[if_neg Qu]
   simp only[Sem.run_bind,run_choose,Question.forced,Bool.false_eq_true,if_false,World.drew_eq,Result.andThen_ok,Xv,run_askRoom,Builtin.firstCells,hf,if_neg hns,z1,newRow,run_newObj,World.alloc_eq,Sem.run_pure]
   simp only[nc,C,Nat.zero_add]
   rfl
theorem M' {φ:Ph} {h h':aC} {w:World} (ok:OK E φ h w) {argTypes:Array TypeId} {s x v:AV} (e:du E h argTypes s x=some (v,h')) {s' x':Value} (hs:VR φ s s') (hx:VR φ x x') (ty:TypeId):
 UZ E φ h w ((Builtin.append_ argTypes ty #[s',x']).run E.P w) v h':=by
 unfold du at e
 split at e
 · rename_i sT xT hsT hxT
   split at e
   · rename_i elem xd hus hux
     split at e
     · rename_i hint
       cases xd<;>simp [qu] at hint
       have key:(Builtin.append_ argTypes ty #[s',x']).run E.P w=(Builtin.append_ #[sT,xT] ty #[s',x']).run E.P w:=by
        unfold Builtin.append_;simp only[hsT,hxT];rfl
       rw[key]
       unfold vT at e
       split at e
       · rename_i k0 k size bytes z hS m9 hzero
         split at e
         · rename_i hc
           obtain ⟨hk,Qw,hsm,hzl⟩:=hc
           split at e
           · rename_i h1 DJ
             simp at e;obtain ⟨rfl,rfl⟩:=e
             cases hs;cases hx
             obtain ⟨z',En,mc⟩:=kD hzero
             have hzs:z'.cells.size=size:=by have:=(En φ).cells.1;simp at this;omega
             obtain ⟨nc,C,Xu,⟨rest,hC⟩,WS,ju⟩:=Ep (P:=E.P) (w:=w) (ty:=ty) (k:=k0) hus hux hS m9 mc hzs hk Qw hsm
             rw[ju]
             exact AU (n:=k.toNat) ok DJ (l:=(Builtin.zeroCells z'.cells k.toNat).toList) (Qq (En φ).cells k.toNat) hS hC WS Xu (by rw[Array.length_toList,qA,hzs])
           · simp at e
         · simp at e
       · simp at e
     rename_i aiK
     have hxd:∀k,xd≠ .int k:=fun k he=>by subst he;simp [qu] at aiK
     split at e
     · rename_i size bytes n hS m9 hlen
       split at e
       · rename_i new z Qx hzero
         split at e
         · rename_i hc
           obtain ⟨hzl,FP,aet⟩:=hc
           obtain ⟨z',En,mc⟩:=kD hzero
           have hzs:z'.cells.size=size:=by have:=(En φ).cells.1;simp at this;omega
           obtain ⟨vB,Ik,AW⟩:=FQ ok hx Qx (.inr trivial)
           have Xt:vB.length=n*size:=by rw[←Ik.1];exact aet
           have key:(Builtin.append_ argTypes ty #[s',x']).run E.P w=(Builtin.append_ #[sT,xT] ty #[s',x']).run E.P w:=by
            unfold Builtin.append_;simp only[hsT,hxT];rfl
           rw[key]
           split at e
           ·
            cases hs
            split at e
            · rename_i WT
              simp at e;obtain ⟨rfl,rfl⟩:=e
              subst WT
              refine ⟨φ,w,_,?_,.aG,ok,Fr.refl φ h w⟩
              have hxm:(match xd with | .int _=>true | _=>false)=false:=by cases xd<;>first | rfl | exact absurd rfl (hxd _)
              have hf:((!false)=true)=True:=by simp
              have hn1:=AW w rfl
              simp only[Builtin.append_,List.getElem?_toArray,List.getElem?_cons_zero,List.getElem?_cons_succ,Sem.run_bind,Sem.run_pure,Result.andThen_ok,run_underlying hus,run_underlying hux,fv hS,hf,Bool.false_eq_true,if_false,if_true,qB hlen hx,hn1,Nat.le_refl,Nat.add_zero]
            · rename_i WT
              split at e
              · rename_i hsm
                split at e
                · rename_i h1 DJ
                  simp at e;obtain ⟨rfl,rfl⟩:=e
                  obtain ⟨nc,C,Xu,⟨rest,hC⟩,WS,ju⟩:=ve (P:=E.P) (w:=w) (ty:=ty) hus hux hxd hS m9 mc hzs (base:=none) (len:=0) (cap:=0) (fun w=>qB hlen hx E.P w) (old:=[]) (fun w' _=>by simp [Builtin.firstCells]) (fun w' hw=>AW w' hw) (by omega) (by simpa using hsm) (by simp) Xt
                  have:=AU (n:=n) ok DJ (l:=[]++vB) (by simpa using Ik) (by simpa using hS) (by simpa using hC) WS (by omega) (by simp [Xt])
                  rw[ju]
                  simp only[Nat.zero_add] at this ⊢
                  exact this
                · simp at e
              · simp at e
           · rename_i i o len cap op
             cases hs with
             | @slice _ l _ _ _ _ hφ=>
             split at e
             · rename_i cs el hg
               split at e
               ·
                rename_i aiL
                split at e
                · rename_i hle
                  simp at e;obtain ⟨rfl,rfl⟩:=e
                  have hcc:cap≤iY op cap l.kt:=by unfold iY;split<;>omega
                  obtain ⟨w',kO,rU,vA⟩:=CA ok hg hφ Ik (o+len*size) (by rw[aet,Nat.add_assoc,←Nat.add_mul];exact hle) FP
                  refine ⟨φ,w',_,sG (P:=E.P) hus hux hxd hS (fun w=>qB hlen hx E.P w) (AW w rfl) (by omega) (by rw[Nat.add_assoc];exact kO),?_,rU,vA⟩
                  have:=VR.slice (φ:=φ) o (len+n) cap op hφ
                  exact this
                · simp at e
               · rename_i aiL
                 split at e
                 · rename_i Xo
                   obtain ⟨hsm,hol,sv⟩:=Xo
                   split at e
                   · rename_i h1 DJ
                     simp at e;obtain ⟨rfl,rfl⟩:=e
                     obtain ⟨C0,e0,lo,hi,hb0,hc0⟩:=ok.cells hg hφ
                     obtain ⟨abS,Na,aiM,Qy⟩:=hc0.range o (len*size) hol
                     have abT:∀cp w',w'.heap=w.heap→(Builtin.firstCells size len (.slice (some ⟨l.iR,l.off+o,none⟩) len cp)).run E.P w'= .ok abS.toArray w':=fun cp w' hw=>by
                      rw[←hw] at hb0
                      have FJ:=pS (P:=E.P) hb0 (l.off+o) abS aiM
                      rw[Na] at FJ
                      simp only[Builtin.firstCells,FJ]
                     by_cases M_:len+n≤iY op cap l.kt
                     ·
                      have alD:op=true:=by
                       cases op with
                       | true=>rfl
                       | false=>simp [iY] at M_;omega
                      subst alD
                      obtain ⟨rfl,aiG⟩:=sv rfl
                      simp only[iY,if_true] at M_ ⊢
                      simp only[if_true] at DJ
                      have M1:=hc0.size
                      simp only[g_,hS,Option.getD_some] at M1
                      have hmul:(len+n)*size≤(cap+l.kt)*size:=Nat.mul_le_mul_right _ M_
                      have e1:(len+n)*size=len*size+n*size:=Nat.add_mul _ _ _
                      have e2:(cap+l.kt)*size=cap*size+l.kt*size:=Nat.add_mul _ _ _
                      have kO:=yP (P:=E.P) hb0 (l.off+o+len*size) vB (by omega) (fun k k1 k2=>hc0.free rfl k (by omega) (by simp only[g_,hS,Option.getD_some];omega)) (FN Ik FP)
                      obtain ⟨p1,p2,p3⟩:=v7 vB w l.iR (l.off+o+len*size)
                      obtain ⟨rU,vA⟩:=ok.reuse (w':=w.setCells l.iR (l.off+o+len*size) vB) (l':=⟨l.iR,l.off+o,cap+l.kt -(len+n)⟩) hg rfl hφ rfl DJ (by
                       refine ⟨lX C0 (l.off+o+len*size) vB,e0,lo,hi,rR vB hb0 _,?_,fun k x hk=>?_,fun _ k a b=>hc0.free rfl k (by simp at a;omega) ?_,fun h=>by cases h⟩
                       · simp only[g_,hS,Option.getD_some,v5,List.length_append,Qy.1,Na,Ik.1,Xt]
                         rw[Nat.sub_mul];omega
                       · show ∃y,(lX C0 (l.off+o+len*size) vB)[l.off+o+k]? =some y∧_
                         rw[zw]
                         by_cases hk1:k<len*size
                         · rw[List.getElem?_append_left (by rw[Qy.1,Na];exact hk1)] at hk
                           obtain ⟨y,hy,hr⟩:=Qy.get hk
                           rw[if_neg (by omega)]
                           exact ⟨y,aiM k y hy,hr.mono (fun j m hm=>by
                            unfold Ph.add
                            split
                            · rename_i ej;subst ej;exact absurd (ok.E1 _ _ hm) (Nat.lt_irrefl _)
                            · exact hm)⟩
                         · rw[List.getElem?_append_right (by rw[Qy.1,Na];omega)] at hk
                           obtain ⟨y,hy,hr⟩:=Ik.get hk
                           have hyl:k -((List.take (len*size) (List.drop o cs)).length)<vB.length:=(List.getElem?_eq_some_iff.1 hy).1
                           rw[Qy.1,Na] at hyl hy
                           rw[if_pos (by omega)]
                           exact ⟨y,by rw[show l.off+o+k -(l.off+o+len*size)=k - len*size by omega];exact hy,hr.mono (fun j m hm=>by
                            unfold Ph.add
                            split
                            · rename_i ej;subst ej;exact absurd (ok.E1 _ _ hm) (Nat.lt_irrefl _)
                            · exact hm)⟩
                       · simp only[g_,hS,Option.getD_some,List.length_append,Qy.1,Na,Ik.1,Xt] at b ⊢
                         rw[Nat.sub_mul] at b;omega)
                       (fun c f'=>lY vB (Ne.symm f') _) (rS _ _ _ _) p1 p2 p3
                      refine ⟨_,_,_,sG (P:=E.P) hus hux hxd hS (fun w=>qB hlen hx E.P w) (AW w rfl) M_ kO,?_,rU,vA⟩
                      have:=VR.slice (φ:=φ.add h.nx ⟨l.iR,l.off+o,cap+l.kt -(len+n)⟩) (i:=h.nx) (l:=⟨l.iR,l.off+o,cap+l.kt -(len+n)⟩) 0 (len+n) (len+n) true (by simp [Ph.add])
                      simp only[iY,if_true] at this
                      rw[show len+n+(cap+l.kt -(len+n))=cap+l.kt by omega] at this
                      exact this
                     ·
                      obtain ⟨nc,C,Xu,⟨rest,hC⟩,WS,ju⟩:=ve (P:=E.P) (w:=w) (ty:=ty) hus hux hxd hS m9 mc hzs (base:=some ⟨l.iR,l.off+o,none⟩) (len:=len) (cap:=iY op cap l.kt) (fun w=>qB hlen hx E.P w) (old:=abS) (fun w' hw=>abT _ w' hw) (fun w' hw=>AW w' hw) (by omega) hsm Na Xt
                      rw[ju]
                      have DE:=Qy.append Ik
                      have hll:(abS++vB).length=(len+n)*size:=by rw[List.length_append,Na,Xt,Nat.add_mul]
                      cases op with
                      | false=>exact AU ok DJ DE hS hC WS Xu hll
                      | true=>
                        obtain ⟨φ',w',v',a1,a2,a3,a4⟩:=AU ok.kill DJ DE hS hC WS Xu hll
                        exact ⟨φ',w',v',a1,a2,a3,a4.abR⟩
                   · simp at e
                 · simp at e
             · simp at e
           · simp at e
         · simp at e
       · simp at e
     · simp at e
   · simp at e
 · simp at e
end Go.Ab
end
section
namespace Go.Ab
variable {E:Env}
theorem U0 {φ:Ph} {h h':aC} {w:World} (ok:OK E φ h w) {argTypes:Array TypeId} {s d v:AV} (e:yO E h argTypes d s=some (v,h')) {s' d':Value} (hd:VR φ d d') (hs:VR φ s s') (ty:TypeId):
 UZ E φ h w ((Builtin.copy_ argTypes ty #[d',s']).run E.P w) v h':=by
 unfold yO at e
 split at e
 · rename_i dT hdT
   split at e
   · rename_i elem m hu hm
     split at e
     · rename_i size hS
       simp at e;obtain ⟨rfl,rfl⟩:=e
       cases hd
       refine ⟨φ,w,_,?_,.int .i64 0,ok,Fr.refl φ h w⟩
       have h0:Nat.min m 0=0:=Nat.min_eq_right (Nat.zero_le _)
       obtain ⟨vB,_,AW⟩:∃vB:List Value,True∧(Builtin.firstCells size 0 s').run E.P w= .ok vB.toArray w:=by
        cases s<;>simp [yw] at hm
        · generalize Qm:AV.str _=s0 at hs
          cases hs<;>cases Qm
          refine ⟨[],trivial,?_⟩
          simp [Builtin.firstCells]
        · cases hs;exact ⟨[],trivial,by simp [Builtin.firstCells]⟩
        · cases hs;exact ⟨[],trivial,by simp [Builtin.firstCells,loadCells,loadCellsFrom]⟩
        · cases hs;exact ⟨[],trivial,by simp [Builtin.firstCells,loadCells,loadCellsFrom]⟩
       simp only[Builtin.copy_,hdT,List.getElem?_toArray,List.getElem?_cons_zero,List.getElem?_cons_succ,Sem.run_bind,Result.andThen_ok,run_underlying hu,qB hm hs,h0,fv hS,AW,Sem.run_pure]
       rfl
     · rename_i size i o len _ _ hS
       split at e
       · rename_i new cs el Qx hg
         split at e
         · rename_i hc
           simp at e;obtain ⟨rfl,rfl⟩:=e
           cases hd with
           | @slice _ l _ _ _ _ hφ=>
           obtain ⟨vB,Ik,AW⟩:=FQ ok hs Qx (.inr trivial)
           obtain ⟨w',kO,rU,vA⟩:=CA ok hg hφ Ik o hc.1 hc.2
           refine ⟨φ,w',_,?_,.int .i64 _,rU,vA⟩
           have h0:Nat.min m len=min m len:=rfl
           simp only[Builtin.copy_,hdT,List.getElem?_toArray,List.getElem?_cons_zero,List.getElem?_cons_succ,Sem.run_bind,Result.andThen_ok,run_underlying hu,qB hm hs,h0,fv hS,AW w rfl,kO,Sem.run_pure]
           rfl
         · simp at e
       · simp at e
     · simp at e
   · simp at e
 · simp at e
theorem Nb {w:World} {b n:Nat} {C:Array Value} {e:TypeId} (h:w.heap[b]? =some (.cells C e)):(w.freeze ⟨b,n,none⟩ 1).heap[b]? =some (.cells C e (n,n+1)):=by
 simp [World.freeze,Array.getElem?_modify,h]
theorem KC {w:World} {b c n:Nat} (h:b≠c):(w.freeze ⟨b,n,none⟩ 1).heap[c]? =w.heap[c]? :=by
 simp [World.freeze,Array.getElem?_modify,h]
theorem Nc (w:World) (b n:Nat):(w.freeze ⟨b,n,none⟩ 1).heap.size=w.heap.size:=by simp [World.freeze]
theorem U1 {φ:Ph} {h h':aC} {w:World} (ok:OK E φ h w) {src dst:TypeId} {x:AV} {v:AV} (e:Jb E h src dst (some x)=some (v,h')) {x':Value} (hx:VR φ x x'):
 UZ E φ h w ((convert src dst x').run E.P w) v h':=by
 unfold Jb at e
 split at e
 · rename_i el s hs hd Ih
   simp at Ih;subst Ih
   generalize Qm:AV.str s=s0 at hx
   cases hx<;>cases Qm
   rename_i s'
   split at e
   · rename_i h1 he hn
     split at e
     · rename_i M1
       simp at e;obtain ⟨rfl,rfl⟩:=e
       have e1:s'.size=s'.data.toList.length:=by cases s';rfl
       let nc:=(Question.appendCap s'.size 0 el).cut (w.tape w.drawn (.appendCap s'.size 0 el))
       have Xu:s'.size≤nc:=by show s'.size≤s'.size+_;omega
       let C:Array Value:=(s'.data.map fun b=>Value.int .u8 b.toNat)++Array.replicate (nc - s'.size) (.int .u8 0)
       have WS:C.size=nc:=by
        have e0:s'.size=s'.data.size:=rfl
        have:C.size=s'.data.size+(nc - s'.size):=by simp only[C,Array.size_append,Array.size_map,Array.size_replicate]
        omega
       have Er:(w.drew.alloc (.cells C el)).heap=w.heap.push (.cells C el):=rfl
       have aiN:(w.drew.alloc (.cells C el)).heap[w.heap.size]? =some (.cells C el):=by rw[Er];simp
       obtain ⟨rU,vA,hle⟩:=ok.fresh (w':=(w.drew.alloc (.cells C el)).freeze ⟨w.heap.size,nc,none⟩ 1) hn ⟨w.heap.size,0,nc - s'.size⟩ (by
        refine ⟨C,el,nc,nc+1,Nb aiN,?_,fun k x hk=>?_,fun _ k _ b=>?_,fun _ _ _=>rfl⟩
        · simp only[g_,M1,Option.getD_some,WS,List.length_map];rw[←e1];omega
        · rw[List.getElem?_map] at hk
          cases hb:s'.data.toList[k]? with
          | none=>rw[hb] at hk;simp at hk
          | some b=>
            rw[hb] at hk;simp at hk;subst hk
            have hkl:k<s'.data.toList.length:=(List.getElem?_eq_some_iff.1 hb).1
            refine ⟨.int .u8 b.toNat,?_,.int _ _⟩
            have:C[0+k]? =(s'.data.map fun b=>Value.int .u8 b.toNat)[k]? :=by
             simp only[C,Nat.zero_add];rw[Array.getElem?_append_left (by simpa using hkl)]
            show C[0+k]? =_
            rw[this]
            rw[Array.getElem?_map]
            have hb':s'.data[k]? =some b:=by simpa using hb
            rw[hb'];rfl
        · simp only[g_,M1,Option.getD_some,List.length_map] at b;rw[←e1] at b;omega)
        (fun c f' hc=>by
         rw[KC (Ne.symm f'),Er,Array.getElem?_push,if_neg (by omega)]) (by rw[Nc,Er];simp) (Nat.le_refl _) rfl rfl rfl
       refine ⟨_,_,.slice (some ⟨w.heap.size,0,none⟩) s'.size nc,?_,?_,rU,vA⟩
       · have hsh:(w.drew.alloc (.cells C el)).shape? w.heap.size=some (el,nc):=by
          simp only[World.shape?,aiN,WS]
         simp only[convert,Sem.run_bind,run_underlying hs,run_underlying hd,Result.andThen_ok,run_underlying he,Conv.stringToBytes,run_choose,Question.forced,Bool.false_eq_true,if_false,World.drew_eq,newRow,run_newObj,World.alloc_eq,Sem.run_pure,markStringish]
         rw[show (Question.appendCap s'.size 0 el).cut (w.tape w.drawn (Question.appendCap s'.size 0 el))=nc from rfl,show (Array.map (fun b=>Value.int .u8 b.toNat) s'.data++Array.replicate (nc - s'.size) (Value.int .u8 0))=C from rfl]
         simp only[World.size_drew,run_shape,hsh,Result.andThen_ok,run_freeze]
       · have:=VR.slice (φ:=φ.add h.nx ⟨w.heap.size,0,nc - s'.size⟩) (i:=h.nx) (l:=⟨w.heap.size,0,nc - s'.size⟩) 0 s'.size s'.size true (by simp [Ph.add])
         simp only[iY,if_true] at this
         rw[show s'.size+(nc - s'.size)=nc by omega] at this
         exact this
     · simp at e
   · simp at e
 · simp at e
theorem tS {φ:Ph} {v:AV} {v':Value} (hv:VR φ v v') {k':Value}:∀{es:List mE} {mB:List MapEntry} (_:Xd φ es mB) (i:Nat) (_:∀e,es[i]? =some e→VR φ e.key k'),
 Xd φ (m7 es i v) (mB.modify i fun e=>{e with key:=k',val:=v'})
 | [],mB,h,i,_=>by
   cases mB with
   | nil=>simpa [m7] using h
   | cons _ _=>simp [Xd] at h
 | e::es,mB,h,i,hk=>by
   obtain ⟨hl,P0⟩:=h
   cases mB with
   | nil=>simp at hl
   | cons y ys=>
     have h0:=P0 0 e y (by simp) (by simp)
     have qz:Xd φ es ys:=⟨by simpa using hl,fun i a b p q=>P0 (i+1) a b (by simpa using p) (by simpa using q)⟩
     cases i with
     | zero=>
       simp only[m7,List.modify_zero_cons]
       refine ⟨by simpa using hl,fun j a b p q=>?_⟩
       cases j with
       | zero=>simp at p q;subst p;subst q;exact ⟨hk e (by simp),hv,h0.born⟩
       | succ j=>simp at p q;exact qz.2 j a b p q
     | succ i=>
       simp only[m7,List.modify_succ_cons]
       obtain ⟨g1,g2⟩:=tS hv qz i (fun e he=>hk e (by simpa using he))
       refine ⟨by simp [g1],fun j a b p q=>?_⟩
       cases j with
       | zero=>simp at p q;subst p;subst q;exact h0
       | succ j=>simp at p;exact g2 j a b p (by simpa using q)
theorem abU (s:ByteArray):(s==s)=true:=by cases s;rename_i d;show (d==d)=true;simp
theorem KD {φ:Ph} {k j:AV} (e:I' k j=some true) {k' j':Value} (h:VR φ k k') (h':VR φ j j'):Instr.sameBits 10000 j' k'=true∧j'=k':=by
 unfold I' at e
 split at e
 · generalize hs:AV.str _=s at h
   generalize tM:AV.str _=s' at h'
   cases h<;>cases hs
   cases h'<;>cases tM
   rename_i s s'
   simp at e
   have:s'=s:=by cases s;cases s';simp_all
   subst this
   exact ⟨by simp only[Instr.sameBits];exact abU _,rfl⟩
 · cases h;cases h'
   split at e
   · rename_i FK
     simp at e;subst e;subst FK
     exact ⟨by simp [Instr.sameBits],rfl⟩
   · simp at e
 · cases h;cases h'
   simp at e;subst e
   exact ⟨by simp [Instr.sameBits],rfl⟩
 · simp at e
theorem wb {φ:Ph} {h h':aC} {w:World} (ok:OK E φ h w) {t:TypeId} {m k v:AV} {m' k' v':Value} (hm:VR φ m m') (hk:VR φ k k') (hv:VR φ v v') (e:fN E h t m k v=some h'):
 ∃w',(Instr.mapUpdate t m' k' v').run E.P w= .ok () w'∧OK E φ h' w'∧Fr φ h w φ h' w':=by
 unfold fN at e
 split at e
 · rename_i key elem i hu
   cases hm with
   | @map _ l hφ=>
   split at e
   · rename_i es clock hg
     split at e
     · rename_i FK
       have Qp:∃d,E.P.underlying key=some d∧j6 (some d) k=true:=by
        cases hd:E.P.underlying key with
        | none=>rw[hd] at FK;simp [j6] at FK
        | some d=>rw[hd] at FK;exact ⟨d,rfl,FK⟩
       obtain ⟨d,hd,FM⟩:=Qp
       have Kv:=ok.live i _ l hg hφ
       obtain ⟨Xr,mB,hb,mG⟩:=Kv
       have Ij:(getObj l.iR).run E.P w= .ok (.map mB clock) w:=by simp [getObj,Sem.run,hb]
       have P1:=tR (P:=E.P) hd FM hk false 9999 w
       have CB:∀o':Obj,(setObj l.iR o').run E.P w= .ok () {w with heap:=w.heap.setIfInBounds l.iR o'}:=fun o'=>by simp [setObj,Sem.run,hb]
       have hch:∀(o:aM) (o':Obj),OR E φ o l (some o')→o.rw=true→OK E φ (h.put i (some o)) {w with heap:=w.heap.setIfInBounds l.iR o'}∧Fr φ h w φ (h.put i (some o)) {w with heap:=w.heap.setIfInBounds l.iR o'}:=fun o o' ho MQ=>by
        have oa:l.iR<w.heap.size:=by
         rcases Nat.lt_or_ge l.iR w.heap.size with a | a
         · exact a
         · rw[Array.getElem?_eq_none a] at hb;simp at hb
        exact ok.change hg rfl hφ (by simp [oa];exact ho) (fun c f'=>by simp [Ne.symm f']) (by simp) rfl rfl rfl
       split at e
       · rename_i j v0 hf
         obtain ⟨r',h1,h2⟩:=sE FM hk mG hf
         cases r' with
         | none=>exact h2.elim
         | some q=>
         obtain ⟨j',v1⟩:=q
         obtain ⟨rfl,P0,_,ent,Cz,Xw⟩:=h2
         simp at e;subst e
         obtain ⟨y,hy⟩:∃y,mB.toList[j]? =some y:=by
          have oa:j<es.length:=by simpa using (List.getElem?_eq_some_iff.1 Cz).1
          exact ⟨mB.toList[j]'(by rw[←mG.1];exact oa),by simp⟩
         have hey:=mG.2 j ent y (by simpa using Cz) hy
         obtain ⟨hsb,afK⟩:=KD Xw hk hey.key
         have hy':mB[j]? =some y:=by simpa using hy
         obtain ⟨rU,vA⟩:=hch (.map (m7 es j v) clock) (.map (mB.modify j fun e=>{e with key:=k',val:=v'}) clock) ⟨Xr,_,rfl,by
          have:=tS hv mG j (k':=k') (fun e he=>by
           have:e=ent:=by
            have h3:es[j]? =some ent:=by simpa using Cz
            rw[h3] at he;simp at he;exact he.symm
           subst this;rw[←afK];exact hey.key)
          simpa using this⟩ rfl
         refine ⟨_,?_,rU,vA⟩
         simp only[Instr.mapUpdate,Sem.run_bind,run_underlying hu,Result.andThen_ok,Ij,P1,Instr.findKey,run_underlying hd,h1,Sem.run_pure,hy',Option.map_some,Option.getD_some,Instr.keyThatStays,hsb,if_true,CB _]
       · rename_i hf
         obtain ⟨r',h1,h2⟩:=sE FM hk mG hf
         cases r' with
         | some q=>exact h2.elim
         | none=>
         simp at e;subst e
         obtain ⟨rU,vA⟩:=hch (.map (es++[{key:=k,val:=v,born:=clock}]) (clock+1)) (.map (mB.push {key:=k',val:=v',born:=clock}) (clock+1)) ⟨Xr,_,rfl,by
          refine ⟨by simp [mG.1],fun j a b p q=>?_⟩
          rw[Array.toList_push] at q
          by_cases hj:j<es.length
          · rw[List.getElem?_append_left hj] at p
            rw[List.getElem?_append_left (by rw[←mG.1];exact hj)] at q
            exact mG.2 j a b p q
          · rw[List.getElem?_append_right (by omega)] at p
            rw[List.getElem?_append_right (by rw[←mG.1];omega),←mG.1] at q
            cases hjj:j - es.length with
            | zero=>rw[hjj] at p q;simp at p q;subst p;subst q;exact ⟨hk,hv,rfl⟩
            | succ n=>rw[hjj] at p;simp at p⟩ rfl
         refine ⟨_,?_,rU,vA⟩
         simp only[Instr.mapUpdate,Sem.run_bind,run_underlying hu,Result.andThen_ok,Ij,P1,Instr.findKey,run_underlying hd,h1,Sem.run_pure,CB _]
       · simp at e
     · split at e
       · rename_i FK
         have Qp:∃d,E.P.underlying key=some d∧oG E (some d) k=true:=by
          cases hd:E.P.underlying key with
          | none=>rw[hd] at FK;simp [oG] at FK
          | some d=>rw[hd] at FK;exact ⟨d,rfl,FK⟩
         obtain ⟨d,hd,FM⟩:=Qp
         have Kv:=ok.live i _ l hg hφ
         obtain ⟨Xr,mB,hb,mG⟩:=Kv
         have Ij:(getObj l.iR).run E.P w= .ok (.map mB clock) w:=by simp [getObj,Sem.run,hb]
         have P1:=wa hd FM hk false 9998 w
         have CB:∀o':Obj,(setObj l.iR o').run E.P w= .ok () {w with heap:=w.heap.setIfInBounds l.iR o'}:=fun o'=>by simp [setObj,Sem.run,hb]
         have hch:∀(o:aM) (o':Obj),OR E φ o l (some o')→o.rw=true→OK E φ (h.put i (some o)) {w with heap:=w.heap.setIfInBounds l.iR o'}∧Fr φ h w φ (h.put i (some o)) {w with heap:=w.heap.setIfInBounds l.iR o'}:=fun o o' ho MQ=>by
          have oa:l.iR<w.heap.size:=by
           rcases Nat.lt_or_ge l.iR w.heap.size with a | a
           · exact a
           · rw[Array.getElem?_eq_none a] at hb;simp at hb
          exact ok.change hg rfl hφ (by simp [oa];exact ho) (fun c f'=>by simp [Ne.symm f']) (by simp) rfl rfl rfl
         split at e
         · rename_i j v0 hf
           obtain ⟨r',h1,h2⟩:=sD hk mG hf
           cases r' with
           | none=>exact h2.elim
           | some q=>
           obtain ⟨j',v1⟩:=q
           obtain ⟨rfl,P0,_,ent,Cz,Xw⟩:=h2
           simp at e;subst e
           obtain ⟨y,hy⟩:∃y,mB.toList[j]? =some y:=by
            have oa:j<es.length:=by simpa using (List.getElem?_eq_some_iff.1 Cz).1
            exact ⟨mB.toList[j]'(by rw[←mG.1];exact oa),by simp⟩
           have hey:=mG.2 j ent y (by simpa using Cz) hy
           obtain ⟨hsb,afK⟩:=Xw hk hey.key
           have hy':mB[j]? =some y:=by simpa using hy
           obtain ⟨rU,vA⟩:=hch (.map (m7 es j v) clock) (.map (mB.modify j fun e=>{e with key:=k',val:=v'}) clock) ⟨Xr,_,rfl,by
            have:=tS hv mG j (k':=k') (fun e he=>by
             have:e=ent:=by
              have h3:es[j]? =some ent:=by simpa using Cz
              rw[h3] at he;simp at he;exact he.symm
             subst this;rw[←afK];exact hey.key)
            simpa using this⟩ rfl
           refine ⟨_,?_,rU,vA⟩
           simp only[Instr.mapUpdate,Sem.run_bind,run_underlying hu,Result.andThen_ok,Ij,P1,pT hd FM hk (h1 w),Sem.run_pure,hy',Option.map_some,Option.getD_some,Instr.keyThatStays,hsb,if_true,CB _]
         · rename_i hf
           obtain ⟨r',h1,h2⟩:=sD hk mG hf
           cases r' with
           | some q=>exact h2.elim
           | none=>
           simp at e;subst e
           obtain ⟨rU,vA⟩:=hch (.map (es++[{key:=k,val:=v,born:=clock}]) (clock+1)) (.map (mB.push {key:=k',val:=v',born:=clock}) (clock+1)) ⟨Xr,_,rfl,by
            refine ⟨by simp [mG.1],fun j a b p q=>?_⟩
            rw[Array.toList_push] at q
            by_cases hj:j<es.length
            · rw[List.getElem?_append_left hj] at p
              rw[List.getElem?_append_left (by rw[←mG.1];exact hj)] at q
              exact mG.2 j a b p q
            · rw[List.getElem?_append_right (by omega)] at p
              rw[List.getElem?_append_right (by rw[←mG.1];omega),←mG.1] at q
              cases hjj:j - es.length with
              | zero=>rw[hjj] at p q;simp at p q;subst p;subst q;exact ⟨hk,hv,rfl⟩
              | succ n=>rw[hjj] at p;simp at p⟩ rfl
           refine ⟨_,?_,rU,vA⟩
           simp only[Instr.mapUpdate,Sem.run_bind,run_underlying hu,Result.andThen_ok,Ij,P1,pT hd FM hk (h1 w),Sem.run_pure,CB _]
         · simp at e
       · simp at e
   · simp at e
 · simp at e
theorem KE {s:ByteArray} {pos:Nat} {b:UInt8} (h:s.data.toList[pos]? =some b) (hb:b.toNat<128):Utf8.decode s pos=(b.toNat,1):=by
 have hl:pos<s.size:=(List.getElem?_eq_some_iff.1 h).1
 have hb':s[pos]'hl=b:=by
  have:=(List.getElem?_eq_some_iff.1 h).2
  rw[←this];rfl
 rw[decode_ascii s pos hl (by rw[hb'];exact hb),hb']
set_option linter.unusedSimpArgs false in
theorem U2 {φ:Ph} {h h':aC} {w:World} (ok:OK E φ h w) {it v:AV} {b:Bool} (e:Ja h it b=some (v,h')) {it':Value} (hit:VR φ it it') (ty:TypeId):
 UZ E φ h w ((Instr.next it' b ty).run E.P w) v h':=by
 unfold Ja at e
 split at e
 · rename_i r
   cases hit with
   | @ptr _ l _ hφ=>
   split at e
   · rename_i s pos hg
     have Kv:=ok.live r _ l hg hφ
     obtain ⟨Xr,s',hb,tM⟩:=Kv
     have Ij:(getObj l.iR).run E.P w= .ok (.stringIter s' pos) w:=by simp [getObj,Sem.run,hb]
     have e1:s'.size=s.length:=by rw[←tM];cases s';rfl
     split at e
     · rename_i oa
       split at e
       · rename_i c hc
         split at e
         · rename_i alE
           simp at e;obtain ⟨rfl,rfl⟩:=e
           have CB:(setObj l.iR (.stringIter s' (pos+1))).run E.P w= .ok () {w with heap:=w.heap.setIfInBounds l.iR (.stringIter s' (pos+1))}:=by simp [setObj,Sem.run,hb]
           have alF:l.iR<w.heap.size:=by
            rcases Nat.lt_or_ge l.iR w.heap.size with a | a
            · exact a
            · rw[Array.getElem?_eq_none a] at hb;simp at hb
           obtain ⟨rU,vA⟩:=ok.change (w':={w with heap:=w.heap.setIfInBounds l.iR (.stringIter s' (pos+1))}) (o':= .yM s (pos+1)) hg rfl hφ (by simp [alF];exact ⟨Xr,s',rfl,tM⟩) (fun c f'=>by simp [Array.getElem?_setIfInBounds,Ne.symm f']) (by simp) rfl rfl rfl
           refine ⟨φ,_,.tuple #[.bool true,.int .i64 pos,.int .i32 c.toNat],?_,VR.tuple' (kr:=[.bool true,.int .i64 pos,.int .i32 c.toNat]) (.cons (.bool true) (.cons (.int _ _) (.cons (.int _ _) (.nil φ)))),rU,vA⟩
           have alG:=KE (s:=s') (pos:=pos) (b:=c) (by rw[tM];exact hc) alE
           have h0:l.off+0=0:=by omega
           simp only[Instr.next,h0,Sem.run_bind,Ij,Result.andThen_ok,e1,oa,if_true,alG,CB,Sem.run_pure,goInt]
         · simp at e
       · simp at e
     · rename_i oa
       simp at e;obtain ⟨rfl,rfl⟩:=e
       refine ⟨φ,w,.tuple #[.bool false],?_,VR.tuple' (kr:=[.bool false]) (.cons (.bool false) (.nil φ)),ok,Fr.refl φ h w⟩
       have h0:l.off+0=0:=by omega
       simp only[Instr.next,h0,Sem.run_bind,Ij,Result.andThen_ok,e1,oa,if_false,Sem.run_pure]
   · rename_i s1 s2 s3 hg
     have Kv:=ok.live r _ l hg hφ
     obtain ⟨Xr,hb⟩:=Kv
     have Ij:(getObj l.iR).run E.P w= .ok (.mapIter none s1 s2.toArray s3) w:=by simp [getObj,Sem.run,hb]
     simp at e;obtain ⟨rfl,rfl⟩:=e
     refine ⟨φ,w,.tuple #[.bool false],?_,VR.tuple' (kr:=[.bool false]) (.cons (.bool false) (.nil φ)),ok,Fr.refl φ h w⟩
     have h0:l.off+0=0:=by omega
     simp only[Instr.next,h0,Sem.run_bind,Ij,Result.andThen_ok,Sem.run_pure]
   · simp at e
 · simp at e
end Go.Ab
end
section
namespace Go.Ab
variable {E:Env}
def DR (φ:Ph):tG→Deferred→Prop
 | .call f args,d'=>∃cap,d'.target= .fn (.func f) cap∧LR φ args (d'.args++cap).toList
 | .col r,d'=>∃l,φ r=some l∧d'.target= .collected l.iR
def DsR (φ:Ph):List tG→List Deferred→Prop
 | [],[]=>True
 | d::ds,d'::CD=>DR φ d d'∧DsR φ ds CD
 | _,_=>False
theorem DR.mono {φ φ':Ph} (hle:φ.le φ') {d:tG} {d':Deferred} (h:DR φ d d'):DR φ' d d':=by
 cases d with
 | call f args=>obtain ⟨c,a,b⟩:=h;exact ⟨c,a,b.mono hle⟩
 | col r=>obtain ⟨l,a,b⟩:=h;exact ⟨l,hle _ _ a,b⟩
theorem DsR.mono {φ φ':Ph} (hle:φ.le φ'):∀{ds:List tG} {CD:List Deferred} (_:DsR φ ds CD),DsR φ' ds CD
 | [],[],_=>trivial
 | _::_,_::_,h=>⟨h.1.mono hle,DsR.mono hle h.2⟩
structure SR (φ:Ph) (ts:List AV) (ds:List tG) (a:Act):Prop where
 ts:LR φ ts a.tmps.toList
 ds:DsR φ ds a.defers
theorem SR.mono {φ φ':Ph} (hle:φ.le φ') {ts:List AV} {ds:List tG} {a:Act} (h:SR φ ts ds a):SR φ' ts ds a:=⟨h.ts.mono hle,h.ds.mono hle⟩
def pC (φ:Ph) (b:Frame) (K:Bool→List Frame):RC→Prop
 | .no=>b.roundOf=none∧∀fr:Frame,fr.kind=b.kind→tryRecover fr (K false)=none
 | .ks v=>b.roundOf=none∧(∃v',VR φ v v'∧∀fr:Frame,fr.kind=b.kind→tryRecover fr (K false)=some (v',K true))∧∀fr:Frame,fr.kind=b.kind→tryRecover fr (K true)=none
 | .done=>b.roundOf=none∧∀fr:Frame,fr.kind=b.kind→tryRecover fr (K true)=none
 | .MP l=>∃ll,φ l=some ll∧b.roundOf=some ll.iR
def cur (K:Bool→List Frame):RC→List Frame
 | .done=>K true
 | _=>K false
def RC.qC:RC→Bool
 | .MP _=>true
 | _=>false
theorem pC.mono {φ φ':Ph} (hle:φ.le φ') {b:Frame} {K:Bool→List Frame}:∀{rc:RC} (_:pC φ b K rc),pC φ' b K rc
 | .no,h=>h
 | .ks _,h=>let ⟨n,⟨v',a,b⟩,c⟩:=h;⟨n,⟨v',a.mono hle,b⟩,c⟩
 | .done,h=>h
 | .MP _,h=>let ⟨l,a,b⟩:=h;⟨l,hle _ _ a,b⟩
theorem pC.plain {φ:Ph} {b:Frame} {K:Bool→List Frame} {rc:RC} (h:pC φ b K rc) (hn:rc.qC=false):b.roundOf=none:=by
 cases rc with
 | no=>exact h.1
 | ks v=>exact h.1
 | done=>exact h.1
 | MP l=>simp [RC.qC] at hn
inductive ExR (φ:Ph):my→Exit→Prop
 | normal:ExR φ .normal .normal
 | exit (id:Nat):ExR φ (.exit id) (.exit id)
 | ret:ExR φ .ret .ret
 | panic (v:AV) (v':Value) (h:VR φ v v'):ExR φ (.panic v) (.panic [{v:=v',recovered:=false}])
def m_ (E:Env) (f:FuncId) (args:List AV) (h:aC) (v:AV) (h':aC):Prop:=
 ∀(φ:Ph) (w:World) (vs:List Value),OK E φ h w→LR φ args vs→(callFunc f vs.toArray).run E.P w= .ok (.enter f vs.toArray) w∧
  ∀cs,∃φ' w' v' fr,VR φ' v v'∧OK E φ' h' w'∧Fr φ h w φ' h' w'∧
   Steps E.P (lone (Frame.enter E.P f vs.toArray .normal) cs w) (lone fr cs w')∧fr.fn=f∧fr.leaving E.P w' (.returned v')
def SW (E:Env) (f:FuncId) (args:List AV) (h:aC) (v:AV) (h':aC):Prop:=
 ∀(φ:Ph) (w:World) (vs:List Value),OK E φ h w→LR φ args vs→(callFunc f vs.toArray).run E.P w= .ok (.enter f vs.toArray) w∧
  ∀cs,∃φ' w' v' fr,VR φ' v v'∧OK E φ' h' w'∧Fr φ h w φ' h' w'∧
   Steps E.P (lone (Frame.enter E.P f vs.toArray .normal) cs w) (lone fr cs w')∧fr.fn=f∧fr.leaving E.P w' (.panicked [{v:=v',recovered:=false}])
inductive qD (E:Env) (φ:Ph) (w:World):Fn→List Value→Next→Frame→Prop
 | fn (f:FuncId) (vs:List Value) (hr:(callFunc f vs.toArray).run E.P w= .ok (.enter f vs.toArray) w):qD E φ w (.fn f) vs (.enter f vs.toArray) (Frame.enter E.P f vs.toArray .normal)
 | DA (l:Nat) (ll:Loc) (hl:φ l=some ll) (vs:List Value) (f:FuncId) (tmps:Array Value) (assign body:Code) (hr:(Instr.yield ll.iR vs.toArray).run E.P w= .ok (.round ll.iR f tmps assign body) w):
  qD E φ w (.DA l) vs (.round ll.iR f tmps assign body) (Frame.round ll.iR f tmps assign body .normal)
def Xx (φ:Ph):Fn→Prop
 | .fn _=>True
 | .DA l=>∃ll,φ l=some ll
def Qz (E:Env) (F:Fn) (args:List AV) (h:aC) (v:AV) (h':aC):Prop:=
 ∀(φ:Ph) (w:World) (vs:List Value),OK E φ h w→Xx φ F→LR φ args vs→∃n start,qD E φ w F vs n start∧
  ∀c cs,∃φ' w' v',VR φ' v v'∧OK E φ' h' w'∧Fr φ h w φ' h' w'∧Steps E.P (lone start (c::cs) w) (lone (c.finish v') cs w')
def QA (E:Env) (F:Fn) (args:List AV) (h:aC) (v:AV) (h':aC):Prop:=
 ∀(φ:Ph) (w:World) (vs:List Value),OK E φ h w→Xx φ F→LR φ args vs→∃n start,qD E φ w F vs n start∧
  ∀c cs,∃φ' w' v',VR φ' v v'∧OK E φ' h' w'∧Fr φ h w φ' h' w'∧Steps E.P (lone start (c::cs) w) (lone (c.raise [{v:=v',recovered:=false}]) cs w')
theorem m_.any {f:FuncId} {args:List AV} {h:aC} {v:AV} {h':aC} (r:m_ E f args h v h'):Qz E (.fn f) args h v h':=fun φ w vs ok _ hl=>by
 obtain ⟨h1,h2⟩:=r φ w vs ok hl
 refine ⟨_,_,.fn f vs h1,fun c cs=>?_⟩
 obtain ⟨φ',w',v',fr,x1,x2,x3,x4,_,x5⟩:=h2 (c::cs)
 exact ⟨φ',w',v',x1,x2,x3,x4.trans (.one (step_leave_returned x5))⟩
theorem SW.any {f:FuncId} {args:List AV} {h:aC} {v:AV} {h':aC} (r:SW E f args h v h'):QA E (.fn f) args h v h':=fun φ w vs ok _ hl=>by
 obtain ⟨h1,h2⟩:=r φ w vs ok hl
 refine ⟨_,_,.fn f vs h1,fun c cs=>?_⟩
 obtain ⟨φ',w',v',fr,x1,x2,x3,x4,_,x5⟩:=h2 (c::cs)
 exact ⟨φ',w',v',x1,x2,x3,x4.trans (.one (step_leave_panicked x5))⟩
structure jI (E:Env) (call:bu):Prop where
 ret:∀f args h v h',call f args h= .ret v h'→Qz E f args h v h'
 panic:∀f args h v h',call f args h= .panic v h'→QA E f args h v h'
structure me (E:Env):Prop where
 ext:aes E
 j5:∀f g,E.j5 f=some g→∀args h v h',g args h=some (v,h')→m_ E f args h v h'
 names:∀(f:FuncId) (fn:Func),E.P.funcs[f]? =some fn→fn.name≠ "runtime.NumGoroutine"
 mixed:E.P.follows .mixedOrders=true
theorem Xy {φ:Ph} {ts:List AV} {a:Act} (h:LR φ ts a.tmps.toList) (d:Option Tmp) {v:AV} {v':Value} (hv:VR φ v v'):LR φ (ew ts d v) (a.put d v').tmps.toList:=by
 cases d with
 | none=>exact h
 | some d=>simp only[ew,Act.put,Array.toList_setIfInBounds];exact h.set hv d
theorem put_defers (a:Act) (d:Option Tmp) (v:Value):(a.put d v).defers=a.defers:=by cases d<;>rfl
theorem SR.put {φ:Ph} {ts:List AV} {ds:List tG} {a:Act} (h:SR φ ts ds a) (d:Option Tmp) {v:AV} {v':Value} (hv:VR φ v v'):SR φ (ew ts d v) ds (a.put d v'):=
 ⟨Xy h.ts d hv,by rw[put_defers];exact h.ds⟩
theorem zz {φ:Ph} {ops:Array Oper} {ts:List AV} {a:Act} (h:LR φ ts a.tmps.toList) (o:Oper):Region.wanted o (yielded ops a.tmps)=cV ops ts o:=by
 unfold Region.wanted cV
 cases o.guard with
 | none=>rfl
 | some g=>
   obtain ⟨j,want⟩:=g
   simp only[yielded]
   cases hd:(ops[j]?).bind (·.dst) with
   | none=>simp
   | some d=>
     simp only[Option.bind_some]
     cases hx:ts[d]? with
     | none=>
       have:a.tmps[d]? =none:=by
        have h1:=List.getElem?_eq_none_iff.1 hx
        rw[h.1] at h1
        have:=List.getElem?_eq_none_iff.2 h1
        simpa using this
       simp [this]
     | some x=>
       obtain ⟨y,hy,hv⟩:=h.get hx
       have hy':a.tmps[d]? =some y:=by simpa using hy
       rw[hy']
       cases hv with
       | any _ h=>cases y<;>first | (simp;done) | cases h
       | _=>simp
section
variable {b:Frame} {a:Act} {k:List Item} {cs:List Frame} {w:World} {ops:Array Oper} {i:Nat} {rest:List Nat} {o:Oper}
theorem xV (ho:ops[i]? =some o) (v:Value):(b.atR a (.inRegion ops (i::rest)::k)).finish v=b.atR (a.put o.dst v) (.inRegion ops rest::k):=by
 rw[Frame.finish_atR,ho];rfl
theorem oW {P:Program} (mH:o.semAt b.roundOf a.eval=execOp a.eval o) (ho:ops[i]? =some o) (hw:Region.wanted o (yielded ops a.tmps)=true) {v:Value} {w':World} (hr:(execOp a.eval o).run P w= .ok (.value v) w'):
 step P (lone (b.atR a (.inRegion ops (i::rest)::k)) cs w)= .next (lone (b.atR (a.put o.dst v) (.inRegion ops rest::k)) cs w'):=by
 rw[←xV ho]
 exact step_lone_go (by rw[stepGR_op (rest:=rest) ho hw,mH];simp [stepG.apply,hr])
theorem Nd {P:Program} (mH:o.semAt b.roundOf a.eval=execOp a.eval o) (ho:ops[i]? =some o) (hw:Region.wanted o (yielded ops a.tmps)=true) {w':World} (hr:(execOp a.eval o).run P w= .ok .skip w'):
 step P (lone (b.atR a (.inRegion ops (i::rest)::k)) cs w)= .next (lone (b.atR (a.put o.dst undef) (.inRegion ops rest::k)) cs w'):=by
 rw[←xV ho]
 exact step_lone_go (by rw[stepGR_op (rest:=rest) ho hw,mH];simp [stepG.apply,hr])
theorem AX {φ:Ph} (mH:o.semAt b.roundOf a.eval=execOp a.eval o) (ho:ops[i]? =some o) (hw:Region.wanted o (yielded ops a.tmps)=true) {F:Fn} {vs:List Value} {n:Next} {start:Frame} (hp:qD E φ w F vs n start) (hr:(execOp a.eval o).run E.P w= .ok n w):
 step E.P (lone (b.atR a (.inRegion ops (i::rest)::k)) cs w)= .next (lone start (b.atR a (.inRegion ops (i::rest)::k)::cs) w):=by
 cases hp with
 | fn f vs _=>exact step_lone_go (by rw[stepGR_op (rest:=rest) ho hw,mH];simp [stepG.apply,hr,Frame.atR])
 | DA l ll hl vs f tmps assign body _=>exact step_lone_go (by rw[stepGR_op (rest:=rest) ho hw,mH];simp [stepG.apply,hr,Frame.atR])
theorem Xz {P:Program} (mH:o.semAt b.roundOf a.eval=execOp a.eval o) (ho:ops[i]? =some o) (hw:Region.wanted o (yielded ops a.tmps)=true) {v:Value} {w':World} (hr:(execOp a.eval o).run P w= .halt (.panic v) w'):
 step P (lone (b.atR a (.inRegion ops (i::rest)::k)) cs w)= .next (lone {b.atR a (.inRegion ops (i::rest)::k) with mode:= .panicking [{v,recovered:=false}]} cs w'):=by
 rw[←Frame.raise_atR]
 exact step_lone_go (by rw[stepGR_op (rest:=rest) ho hw,mH];simp [stepG.apply,hr])
theorem U3 {P:Program} (mH:o.semAt b.roundOf a.eval=execOp a.eval o) (ho:ops[i]? =some o) (hw:Region.wanted o (yielded ops a.tmps)=true) {d:Deferred} {w':World} (hr:(execOp a.eval o).run P w= .ok (.defer d) w'):
 step P (lone (b.atR a (.inRegion ops (i::rest)::k)) cs w)= .next (lone (b.atR ({a with defers:=d::a.defers}.put o.dst undef) (.inRegion ops rest::k)) cs w'):=by
 have:({b.atR a (.inRegion ops (i::rest)::k) with defers:=d::a.defers}:Frame).finish undef=
  b.atR ({a with defers:=d::a.defers}.put o.dst undef) (.inRegion ops rest::k):=by
  have:=Frame.finish_atR b {a with defers:=d::a.defers} ops i rest k undef
  rw[ho] at this;exact this
 refine step_lone_go ?_
 rw[stepGR_op (rest:=rest) ho hw,mH]
 simp only[stepG.apply,Sem.runT_eq,hr,GStep.bare_after]
 exact congrArg (fun fr=>GStep.go {frame:=fr,callers:=cs,status:= .running,dying:=none} w') this
theorem QB {P:Program} (CE:b.roundOf=none) (mH:o.semAt b.roundOf a.eval=execOp a.eval o) (ho:ops[i]? =some o) (hw:Region.wanted o (yielded ops a.tmps)=true) {w':World} (hr:(execOp a.eval o).run P w= .ok .recover w') {v:Value} {kr:List Frame}
 (ht:tryRecover (b.atR a (.inRegion ops (i::rest)::k)) cs=some (v,kr)):
 step P (lone (b.atR a (.inRegion ops (i::rest)::k)) cs w)= .next (lone (b.atR (a.put o.dst v) (.inRegion ops rest::k)) kr w'):=by
 rw[←xV ho]
 refine step_lone_go ?_
 rw[stepGR_op (rest:=rest) ho hw,mH]
 have XA:(b.atR a (.inRegion ops (i::rest)::k)).roundOf=none:=CE
 simp only[stepG.apply,Sem.runT_eq,if_true,hr,GStep.bare_after,XA,ht,GStep.bare_go]
theorem yR {P:Program} (CE:b.roundOf=none) (mH:o.semAt b.roundOf a.eval=execOp a.eval o) (ho:ops[i]? =some o) (hw:Region.wanted o (yielded ops a.tmps)=true) {w':World} (hr:(execOp a.eval o).run P w= .ok .recover w')
 (ht:tryRecover (b.atR a (.inRegion ops (i::rest)::k)) cs=none):
 step P (lone (b.atR a (.inRegion ops (i::rest)::k)) cs w)= .next (lone (b.atR (a.put o.dst .nilIface) (.inRegion ops rest::k)) cs w'):=by
 rw[←xV ho]
 refine step_lone_go ?_
 rw[stepGR_op (rest:=rest) ho hw,mH]
 have XA:(b.atR a (.inRegion ops (i::rest)::k)).roundOf=none:=CE
 simp only[stepG.apply,Sem.runT_eq,if_true,hr,GStep.bare_after,XA,ht,GStep.bare_go]
end
def aiO (P:Program) (m:Machine) (b:Frame) (ops:Array Oper) (rest:List Nat) (k:List Item) (cs:List Frame):Exit→Act→World→Prop
 | .normal,a,w=>Steps P m (lone (b.atR a (.inRegion ops rest::k)) cs w)
 | .panic chain,a,w=>∃todo,Steps P m (lone {b.atR a todo with mode:= .panicking chain} cs w)
 | _,_,_=>False
def SX (φ:Ph):Fn→Target→List Value→List Value→Prop
 | .fn f,t,vs,all=>∃cap:List Value,t= .fn (.func f) cap.toArray∧all=vs++cap
 | .DA l,t,vs,all=>∃ll,φ l=some ll∧t= .fn (.yield ll.iR) #[]∧all=vs
theorem SX.aiP {φ:Ph} {F:Fn} {t:Target} {vs all:List Value} (h:SX φ F t vs all):Xx φ F:=by
 cases F with
 | fn f=>trivial
 | DA l=>obtain ⟨ll,h,_⟩:=h;exact ⟨ll,h⟩
theorem FR {φ:Ph} (hg:GL E φ) {ts:List AV} {a:Act} (ht:LR φ ts a.tmps.toList) {c:Call} {f:Fn} {args:List AV} (h:callee E ts c=some (f,args)) (ty:TypeId):
 ∃(t:Target) (vs all:List Value),LR φ args all∧SX φ f t vs all∧∀w,(resolve a.eval c ty).run E.P w= .ok {target:=t,args:=vs.toArray} w:=by
 unfold callee at h
 split at h
 · rename_i x hcx
   split at h
   · rename_i g first captured as hx has
     simp at h;obtain ⟨rfl,rfl⟩:=h
     have h1:=pA hg ht hx
     have h2:=jH hg ht has
     generalize mT:a.eval x=cv at h1
     obtain ⟨fs',kr,rfl,hf,hc⟩:=h1.Fy
     refine ⟨.fn (.func g) kr.toList.toArray,fs'.toList++c.args.toList.map a.eval,_,?_,⟨kr.toList,rfl,rfl⟩,fun w=>?_⟩
     · rw[List.append_assoc]
       have:=(hf.append h2).append hc
       simpa [List.append_assoc] using this
     · simp [resolve,hcx,Deferred.ofValue,mT,map_toArray]
   · rename_i l as hx has
     simp at h;obtain ⟨rfl,rfl⟩:=h
     have h1:=pA hg ht hx
     have h2:=jH hg ht has
     generalize mT:a.eval x=cv at h1
     cases h1 with
     | yield hl=>
       refine ⟨_,c.args.toList.map a.eval,_,h2,⟨_,hl,rfl,rfl⟩,fun w=>?_⟩
       simp [resolve,hcx,Deferred.ofValue,mT,map_toArray]
   · simp at h
 · simp at h
theorem Il {φ:Ph} {w:World} {F:Fn} {t:Target} {vs all:List Value} (ht:SX φ F t vs all) {n:Next} {start:Frame} (hp:qD E φ w F all n start):(invoke t vs.toArray).run E.P w= .ok n w:=by
 cases hp with
 | fn f tN hr=>
   obtain ⟨cap,rfl,rfl⟩:=ht
   simpa [invoke] using hr
 | DA l ll hl tN f tmps assign body hr=>
   obtain ⟨ll',hl',rfl,rfl⟩:=ht
   rw[hl] at hl';simp at hl';subst hl'
   simpa [invoke] using hr
theorem tT {φ:Ph} {b:Frame} {K:Bool→List Frame} {rc:RC} (iO:pC φ b K rc) {o:Oper} (h:rc.qC=false∨∀c,o.op≠ .defer c) (ρ:Operand→Value):o.semAt b.roundOf ρ=execOp ρ o:=by
 rcases h with h | h
 · rw[iO.plain h];rfl
 · exact Oper.semAt_eq _ _ _ h
end Go.Ab
end
section
namespace Go.Ab
variable {E:Env}
theorem FT {rc:RC} (h:∀l,rc= .MP l→False):rc.qC=false:=by
 cases rc<;>first | rfl | exact (h _ rfl).elim
theorem OK.gl {φ:Ph} {h:aC} {w:World} (ok:OK E φ h w):GL E φ:=ok.AP
inductive wc (E:Env) (call:bu) (φ:Ph) (ts:List AV) (h:aC) (rc:RC) (o:Oper) (a:Act) (w:World):Cs→Prop
 | val (v:AV) (h':aC) (φ':Ph) (w':World) (v':Value) (hv:VR φ' v v') (ok:OK E φ' h' w') (fr:Fr φ h w φ' h' w')
  (run:(execOp a.eval o).run E.P w= .ok (.value v') w'):wc E call φ ts h rc o a w (.val v h')
 | skip (h':aC) (φ':Ph) (w':World) (ok:OK E φ' h' w') (fr:Fr φ h w φ' h' w')
  (run:(execOp a.eval o).run E.P w= .ok .skip w'):wc E call φ ts h rc o a w (.val AV.undef h')
 | enter (v:AV) (h':aC) (F:Fn) (args:List AV) (all:List Value) (hr:Qz E F args h v h') (hf:Xx φ F) (hl:LR φ args all)
  (run:∀n start,qD E φ w F all n start→(execOp a.eval o).run E.P w= .ok n w):wc E call φ ts h rc o a w (.val v h')
 | abV (v:AV) (h':aC) (F:Fn) (args:List AV) (all:List Value) (hr:QA E F args h v h') (hf:Xx φ F) (hl:LR φ args all)
  (run:∀n start,qD E φ w F all n start→(execOp a.eval o).run E.P w= .ok n w):wc E call φ ts h rc o a w (.panic v h')
 | defer (d:tG) (d':Deferred) (H':rc.qC=false) (hd:DR φ d d') (run:(execOp a.eval o).run E.P w= .ok (.defer d') w):wc E call φ ts h rc o a w (.defer d)
 | panic (v:AV) (v':Value) (hv:VR φ v v') (run:(execOp a.eval o).run E.P w= .halt (.panic v') w):wc E call φ ts h rc o a w (.panic v h)
 | vU (v:AV) (iO:rc= .ks v) (run:(execOp a.eval o).run E.P w= .ok .recover w):wc E call φ ts h rc o a w (.vU v)
 | XB (iO:∀v,rc≠ .ks v) (H':rc.qC=false) (run:(execOp a.eval o).run E.P w= .ok .recover w):wc E call φ ts h rc o a w (.val .nilIface h)
 | fail (why:String) (q:Option Oper):wc E call φ ts h rc o a w (.fail why q)
theorem Nf {t:TypeId} {name:String} {f:FuncId} (h:AN E t name=some f) (v:Value) (w:World):(method (E.P.types.size+Made.depth) t v name).run E.P w= .ok (f,v) w:=by
 unfold AN at h
 split at h
 · rename_i i hi
   split at h
   · rename_i m hm
     split at h
     · rename_i hp
       split at h
       · simp at h
       · rename_i g d f' hf hu
         simp at h;subst h
         have UX:m.path.toList=[]:=by simpa using hp
         have e:E.P.types.size+Made.depth=(E.P.types.size+99)+1:=rfl
         rw[e,method]
         have hti:(typeInfo t).run E.P w= .ok i w:=by simp [typeInfo,hi]
         simp only[Sem.run_bind,hti,Result.andThen_ok,hm,UX,follow,Sem.run_pure,hf,receiverAt,run_underlying hu]
         cases d with
         | pointer x=>exact absurd rfl (f' x)
         | _=>simp [Place.get]
       · simp at h
     · simp at h
   · simp at h
 · simp at h
theorem AY {call:bu} {φ:Ph} {ts:List AV} {h:aC} {rc:RC} {o:Oper} {a:Act} {w:World} {s:Sem Value} {v:AV} {h':aC} (hd:UZ E φ h w (s.run E.P w) v h')
 (he:execOp a.eval o=(do pure (.value (←s)):Sem Next)):wc E call φ ts h rc o a w (.val v h'):=by
 obtain ⟨φ',w',v',hr,hv,ok,fr⟩:=hd
 exact .val v h' φ' w' v' hv ok fr (by rw[he];exact gJ hr)
set_option maxHeartbeats 1000000 in
theorem zA (hE:me E) {call:bu} (eu:jI E call) {φ:Ph} {ts:List AV} {h:aC} {rc:RC} {o:Oper} {a:Act} {w:World} (ht:LR φ ts a.tmps.toList) (ok:OK E φ h w):
 wc E call φ ts h rc o a w (ea E call ts h rc o):=by
 have ev:∀{x:Operand} {v:AV},fK E ts x=some v→VR φ v (a.eval x):=fun h=>pA ok.gl ht h
 obtain ⟨dst,op,ty,pos,after,guard⟩:=o
 unfold ea
 simp only
 split
 ·
  split
  · rename_i ha hx
    split
    · rename_i h' kO
      obtain ⟨w',hr,rU,vA⟩:=Qs ok (ev ha) (ev hx) kO
      exact .skip h' φ w' rU vA (by simp [execOp,hr])
    · exact .fail _ _
  · exact .fail _ _
 ·
  split
  · rename_i hm hk hx
    split
    · rename_i h' kO
      obtain ⟨w',hr,rU,vA⟩:=wb ok (ev hm) (ev hk) (ev hx) kO
      exact .skip h' φ w' rU vA (by simp [execOp,hr])
    · exact .fail _ _
  · exact .fail _ _
 ·
  split
  · rename_i hm hk hx
    split
    · rename_i h' kO
      obtain ⟨w',hr,rU,vA⟩:=wb ok (ev hm) (ev hk) (ev hx) kO
      exact .skip h' φ w' rU vA (by simp [execOp,hr])
    · exact .fail _ _
  · exact .fail _ _
 ·
  rename_i src dst x
  split
  · rename_i v h' hc
    cases hx:fK E ts x with
    | none=>rw[hx] at hc;simp [Jb] at hc
    | some xv=>
      rw[hx] at hc
      exact AY (U1 ok hc (ev hx)) rfl
  · exact .fail _ _
 ·
  split
  · rename_i hi
    split
    · rename_i hn
      exact AY (U2 ok hn (ev hi) ty) rfl
    · exact .fail _ _
  · exact .fail _ _
 ·
  split
  · rename_i hx
    have h1:=ev hx
    generalize mT:a.eval _=cv at h1
    cases h1 with
    | iface t1 v1 v' hv=>
    exact .panic _ _ (.iface _ _ v' hv) (by simp [execOp,mT,Instr.panic])
  · exact .fail _ _
 ·
  split
  · exact .fail _ _
  · rename_i f args H' hc
    obtain ⟨t,vs,all,hl,⟨cap,rfl,rfl⟩,hr⟩:=FR ok.gl ht hc ty
    exact .defer _ {target:= .fn (.func f) cap.toArray,args:=vs.toArray} (FT H') ⟨cap.toArray,rfl,by simpa using hl⟩ (by simp [execOp,hr])
  · exact .fail _ _
 ·
  rename_i c
  split
  ·
   rename_i Im
   split
   · rename_i s x has
     have hl:=jH ok.gl ht has
     obtain ⟨s',r1,hr1,hs,hl1⟩:=hl.dv
     obtain ⟨x',r2,hr2,hx,hl2⟩:=hl1.dv
     have h0:c.args.map a.eval= #[s',x']:=by rw[map_toArray,hr1,hr2,hl2.kN]
     split
     · rename_i hap
       exact AY (M' ok hap hs hx ty) (by simp [execOp,resolve,Im,invoke,builtin,h0])
     · exact .fail _ _
   · exact .fail _ _
  ·
   rename_i Im
   split
   · rename_i s x has
     have hl:=jH ok.gl ht has
     obtain ⟨s',r1,hr1,hs,hl1⟩:=hl.dv
     obtain ⟨x',r2,hr2,hx,hl2⟩:=hl1.dv
     have h0:c.args.map a.eval= #[s',x']:=by rw[map_toArray,hr1,hr2,hl2.kN]
     split
     · rename_i hap
       exact AY (U0 ok hap hs hx ty) (by simp [execOp,resolve,Im,invoke,builtin,h0])
     · exact .fail _ _
   · exact .fail _ _
  ·
   rename_i Im
   have ju:(execOp a.eval ⟨dst,.call c,ty,pos,after,guard⟩).run E.P w= .ok .recover w:=by simp [execOp,resolve,Im,invoke,builtin]
   split
   · exact .vU _ rfl ju
   · exact .fail _ _
   · rename_i f' H'
     exact .XB (fun v e=>f' v e) (FT H') ju
  ·
   rename_i fo Im
   split
   · rename_i F args hc
     obtain ⟨t,vs,all,hl,htg,hr⟩:=FR ok.gl ht hc ty
     have ju:∀n start,qD E φ w F all n start→(execOp a.eval ⟨dst,.call c,ty,pos,after,guard⟩).run E.P w= .ok n w:=fun n start hp=>by
      have:=Il htg hp
      simp [execOp,hr,this]
     split
     · rename_i g hg
       split
       · rename_i v h' hgv
         cases F with
         | fn f=>exact .enter v h' (.fn f) args all (hE.j5 f g hg args h v h' hgv).any trivial hl ju
         | DA l=>simp [lC] at hg
       · exact .fail _ _
     · split
       · rename_i v h' mT
         exact .enter v h' F args all (eu.ret F args h v h' mT) htg.aiP hl ju
       · rename_i v h' mT
         exact .abV v h' F args all (eu.panic F args h v h' mT) htg.aiP hl ju
       · exact .fail _ _
   · exact .fail _ _
  ·
   rename_i r name Im
   split
   · rename_i t x args hx has
     split
     · rename_i f hm
       have h1:=ev hx
       generalize mT:a.eval r=cv at h1
       cases h1 with
       | iface t1 v1 v' hv=>
       have hl:LR φ (x::args) (v'::c.args.toList.map a.eval):= .cons hv (jH ok.gl ht has)
       have ju:∀n start,qD E φ w (.fn f) (v'::c.args.toList.map a.eval) n start→(execOp a.eval ⟨dst,.call c,ty,pos,after,guard⟩).run E.P w= .ok n w:=fun n start hp=>by
        cases hp with
        | fn f tN hr=>
        have e1:(#[v']++(c.args.map a.eval))=(v'::c.args.toList.map a.eval).toArray:=by rw[map_toArray];simp
        have e2:(#[Value.iface t v']++c.args.map a.eval).extract 1 (#[Value.iface t v']++c.args.map a.eval).size=c.args.map a.eval:=by
         apply Array.ext';simp
         exact List.take_of_length_le (by simp)
        have e3:(#[Value.iface t v']++c.args.map a.eval)[0]? =some (Value.iface t v'):=by rw[Array.getElem?_append];rfl
        simp only[execOp,resolve,Im,mT,Sem.run_bind,Sem.run_pure,Result.andThen_ok,invoke,e3,e2,callMethod,run_program,Nf hm,e1,hr]
       split
       · rename_i v h' afL
         exact .enter v h' (.fn f) _ _ (eu.ret (.fn f) _ h v h' afL) trivial hl ju
       · rename_i v h' afL
         exact .abV v h' (.fn f) _ _ (eu.panic (.fn f) _ h v h' afL) trivial hl ju
       · exact .fail _ _
     · exact .fail _ _
   · exact .fail _ _
  · exact .fail _ _
 · exact .fail _ _
structure aiQ (E:Env) (φ:Ph) (h:aC) (w:World) (b:Frame) (K:Bool→List Frame) (ops:Array Oper) (rest:List Nat) (k:List Item) (m:Machine) (e:my) (s':St):Prop where
 is:∃φ' w' a' e',ExR φ' e e'∧SR φ' s'.ts s'.ds a'∧OK E φ' s'.h w'∧Fr φ h w φ' s'.h w'∧pC φ' b K s'.rc∧aiO E.P m b ops rest k (cur K s'.rc) e' a' w'
set_option maxHeartbeats 1000000 in
theorem Jk (hE:me E) {call:bu} (eu:jI E call) {ops:Array Oper} {i:Nat} {rest:List Nat} {o:Oper} (ho:ops[i]? =some o) {s s':St} {e:my} (sv:Kr E call s o= .ok e s')
 {φ:Ph} {a:Act} {w:World} {b:Frame} {k:List Item} {K:Bool→List Frame} (hs:SR φ s.ts s.ds a) (ok:OK E φ s.h w) (iO:pC φ b K s.rc) (hw:Region.wanted o (yielded ops a.tmps)=true):
 aiQ E φ s.h w b K ops rest k (lone (b.atR a (.inRegion ops (i::rest)::k)) (cur K s.rc) w) e s':=by
 have mH:(s.rc.qC=false∨∀c,o.op≠ .defer c)→o.semAt b.roundOf a.eval=execOp a.eval o:=fun h=>tT iO h _
 unfold Kr at sv
 split at sv
 · rename_i v hp
   have rq:s.rc.qC=false∨∀c,o.op≠ .defer c:= .inr (fun c e=>by rw[e] at hp;simp [bC] at hp)
   simp at sv;obtain ⟨rfl,rfl⟩:=sv
   obtain ⟨v',hv,hr⟩:=DF hE.ext ok.gl hs.ts hp
   exact ⟨φ,w,_,_,.normal,hs.put o.dst hv,ok,Fr.refl _ _ _,iO,.one (oW (mH rq) ho hw (hr w))⟩
 · split at sv
   · rename_i v hp
     have rq:s.rc.qC=false∨∀c,o.op≠ .defer c:= .inr (fun c e=>by rw[e] at hp;simp [fp] at hp)
     simp at sv;obtain ⟨rfl,rfl⟩:=sv
     obtain ⟨v',hv,hr⟩:=DI ok.gl ok hs.ts hp
     exact ⟨φ,w,_,_,.normal,hs.put o.dst hv,ok,Fr.refl _ _ _,iO,.one (oW (mH rq) ho hw (hr w rfl))⟩
   · split at sv
     · rename_i obj mk hp
       have rq:s.rc.qC=false∨∀c,o.op≠ .defer c:= .inr (fun c e=>by rw[e] at hp;simp [fF] at hp)
       split at sv
       · rename_i h' hn
         simp at sv;obtain ⟨rfl,rfl⟩:=sv
         obtain ⟨O,mk',Ng,hr⟩:=AT ok.gl hs.ts hp
         obtain ⟨rU,vA,hle⟩:=ok.fresh (w':=w.alloc O) hn ⟨w.heap.size,0,0⟩ (by
          have:=Ng.obj (φ.add s.h.nx ⟨w.heap.size,0,0⟩) w.heap.size (fun i m hm=>by
           unfold Ph.add;split
           · rename_i e;subst e;exact absurd (ok.E1 _ _ hm) (Nat.lt_irrefl _)
           · exact hm)
          rw[show (w.alloc O).heap=w.heap.push O from rfl]
          simpa using this)
          (fun c f' hc=>by rw[show (w.alloc O).heap=w.heap.push O from rfl,Array.getElem?_push,if_neg (by simpa using f')]) (by simp) (Nat.le_refl _) rfl rfl rfl
         have hv:=Ng.val (φ.add s.h.nx ⟨w.heap.size,0,0⟩) s.h.nx w.heap.size hle (by simp [Ph.add])
         exact ⟨_,_,_,_,.normal,(hs.mono hle).put o.dst hv,rU,vA,iO.mono hle,.one (oW (mH rq) ho hw (hr w))⟩
       · simp at sv
     · have we:=zA hE eu (rc:=s.rc) (o:=o) hs.ts ok
       have rq:(∃d,ea E call s.ts s.h s.rc o= .defer d)∨(∃why q,ea E call s.ts s.h s.rc o= .fail why q)∨(s.rc.qC=false∨∀c,o.op≠ .defer c):=by
        by_cases hd:∃c,o.op= .defer c
        · obtain ⟨c,hd⟩:=hd
          unfold ea
          simp only[hd]
          split
          · exact .inr (.inl ⟨_,_,rfl⟩)
          · exact .inl ⟨_,rfl⟩
          · exact .inr (.inl ⟨_,_,rfl⟩)
        · exact .inr (.inr (.inr (fun c e=>hd ⟨c,e⟩)))
       generalize ea E call s.ts s.h s.rc o=eo at sv we rq
       cases we with
       | val v h' φ' w' v' hv vf fr run=>
         have rq:=(rq.resolve_left (by simp)).resolve_left (by simp)
         simp at sv;obtain ⟨rfl,rfl⟩:=sv
         exact ⟨φ',w',_,_,.normal,(hs.mono fr.ext).put o.dst hv,vf,fr,iO.mono fr.ext,.one (oW (mH rq) ho hw run)⟩
       | skip h' φ' w' vf fr run=>
         have rq:=(rq.resolve_left (by simp)).resolve_left (by simp)
         simp at sv;obtain ⟨rfl,rfl⟩:=sv
         exact ⟨φ',w',_,_,.normal,(hs.mono fr.ext).put o.dst (VR.undef φ'),vf,fr,iO.mono fr.ext,.one (Nd (mH rq) ho hw run)⟩
       | enter v h' F args all hr hf hl run=>
         have rq:=(rq.resolve_left (by simp)).resolve_left (by simp)
         simp at sv;obtain ⟨rfl,rfl⟩:=sv
         obtain ⟨n,start,hp,kO⟩:=hr φ w all ok hf hl
         obtain ⟨φ',w',v',hv,vf,fr,kI⟩:=kO (b.atR a (.inRegion ops (i::rest)::k)) (cur K s.rc)
         rw[xV ho] at kI
         exact ⟨φ',w',_,_,.normal,(hs.mono fr.ext).put o.dst hv,vf,fr,iO.mono fr.ext,.head (AX (mH rq) ho hw hp (run n start hp)) kI⟩
       | abV v h' F args all hr hf hl run=>
         have rq:=(rq.resolve_left (by simp)).resolve_left (by simp)
         simp at sv;obtain ⟨rfl,rfl⟩:=sv
         obtain ⟨n,start,hp,kO⟩:=hr φ w all ok hf hl
         obtain ⟨φ',w',v',hv,vf,fr,kI⟩:=kO (b.atR a (.inRegion ops (i::rest)::k)) (cur K s.rc)
         rw[Frame.raise_atR] at kI
         exact ⟨φ',w',a,_,.panic v v' hv,hs.mono fr.ext,vf,fr,iO.mono fr.ext,.inRegion ops (i::rest)::k,.head (AX (mH rq) ho hw hp (run n start hp)) kI⟩
       | defer d d' H' hd run=>
         simp at sv;obtain ⟨rfl,rfl⟩:=sv
         have h1:SR φ s.ts (d::s.ds) {a with defers:=d'::a.defers}:=⟨hs.ts,hd,hs.ds⟩
         exact ⟨φ,w,_,_,.normal,h1.put o.dst (VR.undef φ),ok,Fr.refl _ _ _,iO,.one (U3 (tT iO (.inl H') _) ho hw run)⟩
       | panic v v' hv run=>
         have rq:=(rq.resolve_left (by simp)).resolve_left (by simp)
         simp at sv;obtain ⟨rfl,rfl⟩:=sv
         exact ⟨φ,w,a,_,.panic v v' hv,hs,ok,Fr.refl _ _ _,iO,_,.one (Xz (mH rq) ho hw run)⟩
       | vU v alH run=>
         simp at sv;obtain ⟨rfl,rfl⟩:=sv
         rw[alH] at iO ⊢
         have XC:=iO.plain rfl
         have aiR:=tT iO (o:=o) (.inl rfl) a.eval
         obtain ⟨_,⟨v',hv,htr⟩,aiS⟩:=iO
         exact ⟨φ,w,_,_,.normal,hs.put o.dst hv,ok,Fr.refl _ _ _,⟨XC,aiS⟩,.one (QB XC aiR ho hw run (htr _ rfl))⟩
       | XB f' H' run=>
         simp at sv;obtain ⟨rfl,rfl⟩:=sv
         have H_:∀fr:Frame,fr.kind=b.kind→tryRecover fr (cur K s.rc)=none:=by
          cases KF:s.rc with
          | no=>rw[KF] at iO;exact iO.2
          | ks v=>exact absurd KF (f' v)
          | done=>rw[KF] at iO;exact iO.2
          | MP l=>rw[KF] at H';simp [RC.qC] at H'
         exact ⟨φ,w,_,_,.normal,hs.put o.dst .nilIface,ok,Fr.refl _ _ _,iO,.one (yR (iO.plain H') (tT iO (.inl H') _) ho hw run (H_ _ rfl))⟩
       | fail why q=>simp at sv
end Go.Ab
end
section
namespace Go.Ab
variable {E:Env}
def Jl (E:Env) (ts n9:List AV) (op:Op):Prop:=∀x∈op.operands,fK E ts x=fK E n9 x
theorem AZ {α β:Type} {f g:α→Option β}:∀{l:List α} (_:∀x∈l,f x=g x),fE f l=fE g l
 | [],_=>rfl
 | x::xs,h=>by simp only[fE,h x (by simp),AZ (l:=xs) (fun y hy=>h y (by simp [hy]))]
theorem rD {ts n9:List AV} {l:List Operand} (h:∀x∈l,fK E ts x=fK E n9 x):iv E ts l=iv E n9 l:=AZ h
theorem tU {ts n9:List AV}:∀{l:List (Nat×Operand)} (_:∀x∈l.map (·.2),fK E ts x=fK E n9 x),lU E ts l=lU E n9 l
 | [],_=>rfl
 | (i,o)::l,h=>by simp only[lU,h o (by simp),tU (l:=l) (fun y hy=>h y (by simp at hy ⊢;exact .inr hy))]
theorem wg {ts n9:List AV} {o:Option Operand} (h:∀x∈o.toArray,fK E ts x=fK E n9 x):oT E ts o=oT E n9 o:=by
 cases o with
 | none=>rfl
 | some o=>simp only[oT,h o (by simp)]
theorem A0 {ts n9:List AV} {c:Call} (h:∀x∈c.operands,fK E ts x=fK E n9 x):callee E ts c=callee E n9 c:=by
 unfold callee
 cases hc:c.callee with
 | value f=>
   have h1:fK E ts f=fK E n9 f:=h f (by simp [Call.operands,hc])
   have h2:iv E ts c.args.toList=iv E n9 c.args.toList:=rD (fun x hx=>h x (by simp [Call.operands,hc];exact .inr (by simpa using hx)))
   simp only[h1,h2]
 | invoke _ _=>rfl
 | builtin _=>rfl
theorem pD {ts n9:List AV} {c:Call} (h:∀x∈c.operands,fK E ts x=fK E n9 x):iv E ts c.args.toList=iv E n9 c.args.toList:=
 rD (fun x hx=>h x (by simp [Call.operands];exact .inr (by simpa using hx)))
theorem Nh {ts n9:List AV} {op:Op} (h:Jl E ts n9 op):bC E ts op=bC E n9 op:=by
 cases op with
 | call c=>
   have hc:=pD (E:=E) (ts:=ts) (n9:=n9) (c:=c) h
   obtain ⟨callee,args,argTypes⟩:=c
   simp only at hc
   cases callee with
   | builtin b=>cases b<;>simp only[bC,hc]
   | value f=>cases f<;>simp only[bC,hc]
   | invoke r m=>simp only[bC]
 | build t ps=>
   have:lU E ts ps.toList=lU E n9 ps.toList:=tU (fun x hx=>h x (by simpa [Op.operands] using hx))
   simp only[bC,this]
 | makeFunc fn first captured=>
   cases fn with
   | func f=>
     have h1:iv E ts first.toList=iv E n9 first.toList:=rD (fun x hx=>h x (by simp [Op.operands];exact .inl (by simpa using hx)))
     have h2:iv E ts captured.toList=iv E n9 captured.toList:=rD (fun x hx=>h x (by simp [Op.operands];exact .inr (by simpa using hx)))
     simp only[bC,h1,h2]
   | _=>simp only[bC]
 | slice t x lo hi mx=>
   have h0:fK E ts x=fK E n9 x:=h x (by simp [Op.operands])
   have h1:oT E ts lo=oT E n9 lo:=wg (fun y hy=>h y (by simp [Op.operands] at hy ⊢;exact .inr (.inl hy)))
   have h2:oT E ts hi=oT E n9 hi:=wg (fun y hy=>h y (by simp [Op.operands] at hy ⊢;exact .inr (.inr (.inl hy))))
   have h3:oT E ts mx=oT E n9 mx:=wg (fun y hy=>h y (by simp [Op.operands] at hy ⊢;exact .inr (.inr (.inr hy))))
   simp only[bC,h0,h1,h2,h3]
 | move x=>simp only[bC,h x (by simp [Op.operands])]
 | assign x=>simp only[bC,h x (by simp [Op.operands])]
 | pick c a b=>simp only[bC,h c (by simp [Op.operands]),h a (by simp [Op.operands]),h b (by simp [Op.operands])]
 | nilCheck x=>simp only[bC,h x (by simp [Op.operands])]
 | binOp o t x y u=>simp only[bC,h x (by simp [Op.operands]),h y (by simp [Op.operands])]
 | unOp o t x=>simp only[bC,h x (by simp [Op.operands])]
 | convert s d x=>simp only[bC,h x (by simp [Op.operands])]
 | makeInterface t x=>simp only[bC,h x (by simp [Op.operands])]
 | fieldAddr s x f=>simp only[bC,h x (by simp [Op.operands])]
 | field s x f=>simp only[bC,h x (by simp [Op.operands])]
 | indexAddr t x i=>simp only[bC,h x (by simp [Op.operands]),h i (by simp [Op.operands])]
 | index t x i=>simp only[bC,h x (by simp [Op.operands]),h i (by simp [Op.operands])]
 | extract x i=>simp only[bC,h x (by simp [Op.operands])]
 | typeAssert x a b ok=>simp only[bC,h x (by simp [Op.operands])]
 | _=>simp only[bC]
theorem Ni {ts n9:List AV} {op:Op} (h:Jl E ts n9 op) (hp:aC):fp E ts hp op=fp E n9 hp op:=by
 cases op with
 | call c=>
   have hc:=pD (E:=E) (ts:=ts) (n9:=n9) (c:=c) h
   obtain ⟨callee,args,argTypes⟩:=c
   simp only at hc
   cases callee with
   | builtin b=>cases b<;>simp only[fp,hc]
   | value f=>simp only[fp]
   | invoke r m=>simp only[fp]
 | load t a=>simp only[fp,h a (by simp [Op.operands])]
 | convert s d x=>simp only[fp,h x (by simp [Op.operands])]
 | lookup t x i ok=>simp only[fp,h x (by simp [Op.operands]),h i (by simp [Op.operands])]
 | _=>simp only[fp]
theorem KG {ts n9:List AV} {op:Op} (h:Jl E ts n9 op):fF E ts op=fF E n9 op:=by
 cases op with
 | buildSlice t n ps=>
   have:lU E ts ps.toList=lU E n9 ps.toList:=tU (fun x hx=>h x (by simpa [Op.operands] using hx))
   simp only[fF,this]
 | box t x=>simp only[fF,h x (by simp [Op.operands])]
 | makeSlice t l c=>simp only[fF,h l (by simp [Op.operands]),h c (by simp [Op.operands])]
 | makeMap t r=>
   cases r with
   | none=>simp only[fF]
   | some r=>simp only[fF,h r (by simp [Op.operands])]
 | range t x=>simp only[fF,h x (by simp [Op.operands])]
 | _=>simp only[fF]
theorem FU {call:bu} {ts n9:List AV} {o:Oper} (h:Jl E ts n9 o.op) (hp:aC) (rc:RC):ea E call ts hp rc o=ea E call n9 hp rc o:=by
 obtain ⟨dst,op,ty,pos,after,guard⟩:=o
 simp only at h
 unfold ea
 cases op with
 | call c=>
   have hc:=pD (E:=E) (ts:=ts) (n9:=n9) (c:=c) h
   have Im:=A0 (E:=E) (ts:=ts) (n9:=n9) (c:=c) h
   cases hcc:c.callee with
   | invoke r name=>
     have hr:fK E ts r=fK E n9 r:=h r (by simp [Op.operands,Call.operands,hcc])
     simp only[hcc,hc,hr]
   | builtin b=>cases b<;>simp only[hcc,hc]
   | value f=>simp only[hcc,Im]
 | defer c=>simp only[A0 (E:=E) (ts:=ts) (n9:=n9) (c:=c) h]
 | store t a x=>simp only[h a (by simp [Op.operands]),h x (by simp [Op.operands])]
 | mapUpdate t m k x=>simp only[h m (by simp [Op.operands]),h k (by simp [Op.operands]),h x (by simp [Op.operands])]
 | insert t m k x=>simp only[h m (by simp [Op.operands]),h k (by simp [Op.operands]),h x (by simp [Op.operands])]
 | convert s d x=>simp only[h x (by simp [Op.operands])]
 | next i s=>simp only[h i (by simp [Op.operands])]
 | panic x=>simp only[h x (by simp [Op.operands])]
 | _=>rfl
end Go.Ab
end
