import Derived.Laws.BitsLemmas
import Derived.Laws.RangeString
import Derived.Defers
import Derived.AtR
import Derived.RangeFuncNested
import Derived.Test.YthapgpflpcffnaaGreatDoorA1
set_option linter.unusedVariables false
set_option linter.unusedSimpArgs false
section
namespace Go.Ab
variable {E:Env}
def En (E:Env) (φ:Ph) (h:ah) (w:World) (r:Result Value) (v:AV) (h':ah):Prop:=
 ∃φ' w' v',r= .ok v' w'∧VR φ' v v'∧OK E φ' h' w'∧Fr φ h w φ' h' w'
theorem sC {φ:Ph} {vs:List AV} {jw:List Value} (h:LR φ vs jw) (hs:vs.all AV.scalar=true):∀v∈jw,v.oneCell'=true:=by
 intro v hv
 obtain ⟨i,hi⟩:=List.getElem?_of_mem hv
 have SG:i<vs.length:=by rw[h.1];exact (List.getElem?_eq_some_iff.1 hi).1
 have:=h.2 i vs[i] v (by simp [SG]) hi
 exact this.scalar (List.all_eq_true.1 hs _ (List.getElem_mem SG))
theorem pV {φ:Ph} {h:ah} {w:World} (ok:OK E φ h w) {i:Nat} {cs:List AV} {e:TypeId} (hg:h.get i=some (.cells cs e false)) {l:Loc} (hφ:φ i=some l)
 {vs:List AV} {jw:List Value} (hl:LR φ vs jw) (o:Nat) (hle:o+vs.length≤cs.length) (ov:vs.all AV.scalar=true):
 ∃w',(storeCells ⟨l.cH,l.off+o,none⟩ jw).run E.P w= .ok () w'∧OK E φ (h.put i (some (.cells (setFrom cs o vs) e false))) w'∧
  Fr φ h w φ (h.put i (some (.cells (setFrom cs o vs) e false))) w':=by
 obtain ⟨C,e',lo,hi,hb,hc⟩:=ok.cells hg hφ
 have F9:=hc.size
 have hlen:=hl.1
 have dq:=np (P:=E.P) hb (l.off+o) jw (by omega) (fun k h1 h2=>hc.free rfl k (by omega) (by omega)) (sC hl ov)
 refine ⟨_,dq,?_⟩
 obtain ⟨h1,h2,h3⟩:=lP jw w l.cH (l.off+o)
 refine ok.change hg rfl hφ ?_ (fun c bY=>eY jw (Ne.symm bY) _) (jH _ _ _ _) h1 h2 h3
 refine ⟨eX C (l.off+o) jw,e',lo,hi,jG jw hb _,?_,fun k x hk=>?_,fun _ k a b=>hc.free rfl k a (by rw[ez] at b;exact b),fun h=>by cases h⟩
 · rw[ez,lO];exact F9
 · rw[b4] at hk
   rw[nE]
   split at hk
   · rename_i Pu
     rw[if_pos (by omega)]
     obtain ⟨y,hy,hr⟩:=hl.get hk
     exact ⟨y,by rw[show l.off+k -(l.off+o)=k - o by omega];exact hy,hr⟩
   · rename_i Pu
     have SH:k<cs.length:=(List.getElem?_eq_some_iff.1 hk).1
     rw[if_neg (by omega)]
     exact hc.val k x hk
theorem BP {φ:Ph} {h h':ah} {w:World} (ok:OK E φ h w) {t:TypeId} {av xv:AV} {a' x':Value} (ha:VR φ av a') (hx:VR φ xv x') (e:aQ E h t av xv=some h'):
 ∃w',(Instr.storeAt t a' x').run E.P w= .ok () w'∧OK E φ h' w'∧Fr φ h w φ h' w':=by
 unfold aQ at e
 split at e
 · rename_i i o
   cases ha with
   | @ptr _ l _ hφ=>
   split at e
   · rename_i cs el n hg hn
     split at e
     · rename_i hc
       simp at e;subst e
       obtain ⟨w',dq,jT,lx⟩:=pV ok hg hφ hx.cells o (by omega) hc.2.2
       refine ⟨w',?_,jT,lx⟩
       have hs:x'.cells.size=n:=by have:=hx.cells.1;simp at this;omega
       simp only[Instr.storeAt,Instr.sureAddr,Sem.run_bind,Sem.run_pure,Result.andThen_ok,storeVar,b5 hn,hs,ne_eq,not_true_eq_false,if_false,dq]
     · simp at e
   · simp at e
 · simp at e
theorem sD {φ:Ph} {h:ah} {w:World} (ok:OK E φ h w) {size n:Nat} {x:AV} {x':Value} (hx:VR φ x x') {new:List AV} (e:cN h size n x=some new) (hn:jq x=some n∨True):
 ∃ly:List Value,LR φ new ly∧∀w',w'.heap=w.heap→(Builtin.firstCells size n x').run E.P w'= .ok ly.toArray w':=by
 unfold cN at e
 split at e
 · split at e
   · rename_i h0
     simp at e;subst e
     cases hx
     exact ⟨[],LR.nil φ,fun w' _=>by simp [Builtin.firstCells]⟩
   · simp at e
 · split at e
   · rename_i h0
     simp at e;subst e
     cases hx
     exact ⟨[],LR.nil φ,fun w' _=>by subst h0;simp only[Builtin.firstCells,Nat.zero_mul];rfl⟩
   · simp at e
 · rename_i i o len _ _
   split at e
   · split at e
     · rename_i h0
       simp at e;subst e
       cases hx
       exact ⟨[],LR.nil φ,fun w' _=>by subst h0;simp only[Builtin.firstCells,Nat.zero_mul];rfl⟩
     · split at e
       · rename_i cs el ro hg
         split at e
         · rename_i hle
           simp at e;subst e
           cases hx with
           | @slice _ l _ _ _ _ hφ=>
           obtain ⟨C,e',lo,hi,hb,hc⟩:=ok.cells hg hφ
           obtain ⟨vs,PY,Bo,su⟩:=hc.range o (n*size) hle
           refine ⟨vs,su,fun w' hw=>?_⟩
           rw[←hw] at hb
           have sx:=im (P:=E.P) hb (l.off+o) vs Bo
           rw[PY] at sx
           simp only[Builtin.firstCells,sx]
         · simp at e
       · simp at e
   · simp at e
 · rename_i s
   split at e
   · rename_i kq
     simp at e;subst e
     generalize BJ:AV.str s=s0 at hx
     cases hx<;>cases BJ
     rename_i s'
     refine ⟨(s'.data.toList.take n).map (fun b=>Value.int .u8 b.toNat),⟨by simp,fun i p q hp hq=>?_⟩,fun w' _=>?_⟩
     · rw[←List.map_take,List.getElem?_map] at hp
       rw[List.getElem?_map] at hq
       cases hb:(s'.data.toList.take n)[i]? with
       | none=>rw[hb] at hp;simp at hp
       | some b=>
         rw[hb] at hp hq
         simp at hp hq
         subst hp;subst hq
         exact .int _ _
     · simp only[Builtin.firstCells,Sem.run_pure]
       congr 1
       apply Array.ext'
       simp
   · simp at e
 · simp at e
end Go.Ab
namespace Go.Ab
variable {E:Env}
theorem OK.reuse {φ:Ph} {h h':ah} {w w':World} (ok:OK E φ h w) {i:Nat} {o o':aF} {l l':Loc} (hg:h.get i=some o) (za:o.rw=true) (hl:φ i=some l) (hb:l'.cH=l.cH)
 (hn:(h.put i none).new o'=some h') (ho:OR E (φ.add h.nx l') o' l' w'.heap[l.cH]?) (lQ:∀c,c≠l.cH→w'.heap[c]? =w.heap[c]?) (cB:w'.heap.size=w.heap.size)
 (PO:w'.os=w.os) (ze:w'.tape=w.tape) (jQ:w'.output=w.output):
 OK E (φ.add h.nx l') h' w'∧Fr φ h w (φ.add h.nx l') h' w':=by
 obtain ⟨gC,Pq,sq,hold⟩:=ah.fO hn
 have XV:(h.put i none).nx=h.nx:=rfl
 rw[XV] at Pq sq hold
 have w_:φ h.nx=none:=by
  cases e:φ h.nx with
  | none=>rfl
  | some m=>exact absurd (ok.qL _ _ e) (Nat.lt_irrefl _)
 have hle:φ.le (φ.add h.nx l'):=fun j m hm=>by
  unfold Ph.add;split
  · rename_i e;subst e;rw[w_] at hm;simp at hm
  · exact hm
 have cX:∀j p,h'.get j=some p→(j=h.nx∧p=o')∨(j≠h.nx∧j≠i∧h.get j=some p):=fun j p hj=>by
  by_cases e:j=h.nx
  · subst e;rw[sq] at hj;simp at hj;exact .inl ⟨rfl,hj.symm⟩
  · rw[hold j e] at hj
    by_cases e':i=j
    · subst e';rw[ah.bx] at hj;simp at hj
    · rw[ah.bf e'] at hj;exact .inr ⟨e,Ne.symm e',hj⟩
 have eZ:∀j,j≠h.nx→(φ.add h.nx l') j=φ j:=fun j hj=>by simp [Ph.add,hj]
 have dw:(φ.add h.nx l') h.nx=some l':=by simp [Ph.add]
 refine ⟨⟨fun j m hm=>?_,?_,fun g hg=>hle _ _ (ok.lN g hg),fun j p m hj hm=>?_,fun j k p q m n hj hk hm lr hw Tw=>?_⟩,
  ⟨hle,fun j hj=>eZ j (by omega),by omega,PO,ze,jQ,Nat.le_of_eq cB.symm,fun b _ SC=>lQ b (fun e=>SC i o l hg za hl e.symm),fun j p m hj hr hm=>?_⟩⟩
 · rw[Pq]
   by_cases e:j=h.nx
   · omega
   · rw[eZ j e] at hm;have:=ok.qL j m hm;omega
 · have:=ok.nx;omega
 · rcases cX j p hj with ⟨rfl,rfl⟩ | ⟨bY,xa,kl⟩
   · rw[dw] at hm;simp at hm;subst hm;exact hb▸ho
   · rw[eZ j bY] at hm
     rw[lQ _ (fun e=>xa (ok.inj j i p o m l kl hg hm hl (.inr za) e))]
     exact (ok.live j p m kl hm).mono hle
 · rcases cX j p hj with ⟨rfl,rfl⟩ | ⟨bY,Wi,kl⟩<;>rcases cX k q hk with ⟨rfl,rfl⟩ | ⟨xa,Tx,zf⟩
   · rfl
   · rw[dw] at hm;simp at hm;subst hm
     rw[eZ k xa] at lr
     exact absurd (ok.inj k i q o n l zf hg lr hl (.inr za) (Tw.symm.trans hb)) Tx
   · rw[dw] at lr;simp at lr;subst lr
     rw[eZ j bY] at hm
     exact absurd (ok.inj j i p o m l kl hg hm hl (.inr za) (Tw.trans hb)) Wi
   · rw[eZ j bY] at hm;rw[eZ k xa] at lr;exact ok.inj _ _ _ _ _ _ kl zf hm lr hw Tw
 · rcases cX j p hj with ⟨rfl,rfl⟩ | ⟨bY,Wi,kl⟩
   · rw[dw] at hm;simp at hm;subst hm;exact .inr ⟨i,o,l,hg,za,hl,hb.symm⟩
   · rw[eZ j bY] at hm;exact .inr ⟨j,p,m,kl,hr,hm,rfl⟩
theorem vJ:∀(rounds c BQ:Nat),c<BQ→Builtin.growBy BQ rounds c≤2*BQ+1000
 | 0,c,n,h=>by simp [Builtin.growBy];omega
 | r+1,c,n,h=>by
   simp only[Builtin.growBy]
   split
   · omega
   · by_cases hc:c+(c+768) /4<n
     · exact vJ r _ n hc
     · cases r with
       | zero=>simp only[Builtin.growBy];omega
       | succ r=>simp only[Builtin.growBy];rw[if_pos (by omega)];omega
theorem nextslicecap_le {n c:Nat} (h:c<n):Builtin.nextslicecap n c≤4*n+4096:=by
 unfold Builtin.nextslicecap
 split
 · omega
 · split
   · omega
   · have:=vJ 4 c n h;omega
theorem iN (z:Array Value) (n:Nat):(Builtin.zeroCells z n).size=n*z.size:=by simp [Builtin.zeroCells]
theorem lh {P:Program} {w:World} {sT xT ty elem:TypeId} {xd:TypeDesc} (hs:P.underlying sT=some (.slice elem)) (hx:P.underlying xT=some xd) (Kf:∀k,xd≠ .int k)
 {size bytes n:Nat} (cB:(P.info? elem).map (·.size)=some size) (fP:(P.info? elem).map (·.bytes)=some bytes) {z:Value} (hz:∀w,(zeroValue elem).run P w= .ok z w) (Kg:z.cells.size=size)
 {base:Option Addr} {len cap:Nat} {x':Value} (hn:∀w,(Builtin.lenOf x').run P w= .ok n w) {old new:List Value} (hold:∀w',w'.heap=w.heap→(Builtin.firstCells size len (.slice base len cap)).run P w'= .ok old.toArray w')
 (sq:∀w',w'.heap=w.heap→(Builtin.firstCells size n x').run P w'= .ok new.toArray w') (gC:cap<len+n) (va:(4*(len+n)+4096)*(bytes+1)≤1099511627776) (JR:old.length=len*size) (Gg:new.length=n*size):
 ∃nc:Nat,∃C:Array Value,len+n≤nc∧(∃rest,C.toList=old++new++rest)∧C.size=nc*size∧
  (Builtin.append_ #[sT,xT] ty #[.slice base len cap,x']).run P w= .ok (.slice (some ⟨w.heap.size,0,none⟩) (len+n) nc) (w.drew.alloc (.cells C elem)):=by
 let nc:=(Question.appendCap (len+n) cap elem).cut (w.tape w.drawn (.appendCap (len+n) cap elem))
 have Gh:len+n≤nc:=by show len+n≤len+n+_;omega
 let C:Array Value:=old.toArray++new.toArray++Builtin.zeroCells z.cells (nc -(len+n))
 refine ⟨nc,C,Gh,⟨(Builtin.zeroCells z.cells (nc -(len+n))).toList,by simp [C]⟩,?_,?_⟩
 · simp only[C,Array.size_append,iN,Kg,List.size_toArray,JR,Gg]
   rw[←Nat.add_mul,←Nat.add_mul];congr 1;omega
 · obtain ⟨inf,zk,hb⟩:=jR fP w
   obtain ⟨Ty,Gi,Mp⟩:=jR fP w.drew
   have Ns:(match xd with | .int _=>true | _=>false)=false:=by cases xd<;>first | rfl | exact absurd rfl (Kf _)
   have Nt:¬len+n≤cap:=by omega
   have Nu:=nextslicecap_le gC
   have hmul:(4*(len+n)+4096)*(bytes+1)=(4*(len+n)+4096)*bytes+(4*(len+n)+4096):=by rw[Nat.mul_add,Nat.mul_one]
   have BR:¬Builtin.nextslicecap (len+n) cap*bytes>2^48:=by
    have:Builtin.nextslicecap (len+n) cap*bytes≤(4*(len+n)+4096)*bytes:=Nat.mul_le_mul_right _ Nu
    omega
   have Nv:IntKind.i64.max=9223372036854775807:=by decide
   have xp:¬(((len+n:Nat):Int) >IntKind.i64.max):=by rw[Nv];omega
   have o1:=hold w.drew rfl
   have n1:=sq w.drew rfl
   have z1:=hz w.drew
   have hf:((!false)=true)=True:=by simp
   simp only[Builtin.append_,List.getElem?_toArray,List.getElem?_cons_zero,List.getElem?_cons_succ,Sem.run_bind,Sem.run_pure,Result.andThen_ok,run_underlying hs,run_underlying hx,b5 cB,Bool.false_eq_true,if_false,hn,Nt,zk]
   rw[if_neg (fun h=>xp h.1)]
   simp only[Sem.run_bind,zk,hb,Result.andThen_ok]
   rw[if_neg BR]
   simp only[Sem.run_bind,run_choose,Question.forced,Bool.false_eq_true,if_false,World.drew_eq,Result.andThen_ok,Gi,run_askRoom,o1,hf,if_true,n1,z1,newRow,run_newObj,World.alloc_eq,Sem.run_pure]
   rfl
theorem jW {P:Program} {w w':World} {sT xT ty elem:TypeId} {xd:TypeDesc} (hs:P.underlying sT=some (.slice elem)) (hx:P.underlying xT=some xd) (Kf:∀k,xd≠ .int k)
 {size n:Nat} (cB:(P.info? elem).map (·.size)=some size) {b O len cap:Nat} {x':Value} (hn:∀w,(Builtin.lenOf x').run P w= .ok n w) {new:List Value}
 (sq:(Builtin.firstCells size n x').run P w= .ok new.toArray w) (hle:len+n≤cap) (er:(storeCells ⟨b,O+len*size,none⟩ new).run P w= .ok () w'):
 (Builtin.append_ #[sT,xT] ty #[.slice (some ⟨b,O,none⟩) len cap,x']).run P w= .ok (.slice (some ⟨b,O,none⟩) (len+n) cap) w':=by
 have Ns:(match xd with | .int _=>true | _=>false)=false:=by cases xd<;>first | rfl | exact absurd rfl (Kf _)
 have hf:((!false)=true)=True:=by simp
 simp only[Builtin.append_,List.getElem?_toArray,List.getElem?_cons_zero,List.getElem?_cons_succ,Sem.run_bind,Sem.run_pure,Result.andThen_ok,run_underlying hs,run_underlying hx,b5 cB,hf,Bool.false_eq_true,if_false,if_true,hn,hle,sq,mO,er]
theorem ow {φ:Ph} {h h':ah} {w:World} (ok:OK E φ h w) {new:List AV} {elem:TypeId} (hn:h.new (.cells new elem false)=some h') {l:List Value} (hl:LR φ new l)
 {size nc n:Nat} (cB:bb E elem=some size) {C:Array Value} {rest:List Value} (hC:C.toList=l++rest) (FL:C.size=nc*size) (Gh:n≤nc) (SI:l.length=n*size):
 En E φ h w (.ok (.slice (some ⟨w.heap.size,0,none⟩) n nc) (w.drew.alloc (.cells C elem))) (.slice h.nx 0 n n true) h':=by
 have Gg:new.length=n*size:=by rw[hl.1,SI]
 obtain ⟨jT,lx,hle⟩:=ok.fresh (w':=w.drew.alloc (.cells C elem)) hn ⟨w.heap.size,0,nc - n⟩ (by
  refine ⟨C,elem,0,0,by rw[show (w.drew.alloc (.cells C elem)).heap=w.heap.push (.cells C elem) from rfl];simp,?_,fun k x hk=>?_,fun _ k _ _=>by omega,fun _ _ _=>rfl⟩
  · simp only[cx,cB,Option.getD_some,Gg,FL,Nat.zero_add]
    rw[←Nat.add_mul];exact Nat.mul_le_mul_right _ (by omega)
  · obtain ⟨y,hy,hr⟩:=hl.get hk
    have SH:k<l.length:=(List.getElem?_eq_some_iff.1 hy).1
    refine ⟨y,?_,hr.mono (fun i m hm=>?_)⟩
    · have:C.toList[k]? =some y:=by rw[hC,List.getElem?_append_left SH];exact hy
      simpa using this
    · unfold Ph.add
      split
      · rename_i e;subst e;exact absurd (ok.qL _ _ hm) (Nat.lt_irrefl _)
      · exact hm)
  (fun c bY hc=>by
   have:(w.drew.alloc (.cells C elem)).heap[c]? =w.heap[c]? :=by
    rw[show (w.drew.alloc (.cells C elem)).heap=w.heap.push (.cells C elem) from rfl,Array.getElem?_push,if_neg (by simpa using bY)]
   exact this) (by simp) (Nat.le_refl _) rfl rfl rfl
 refine ⟨_,_,_,rfl,?_,jT,lx⟩
 have:=VR.slice (φ:=φ.add h.nx ⟨w.heap.size,0,nc - n⟩) (i:=h.nx) (l:=⟨w.heap.size,0,nc - n⟩) 0 n n true (by simp [Ph.add])
 simp only[cO,if_true] at this
 rw[show n+(nc - n)=nc by omega] at this
 exact this
theorem Fr.Kh {φ φ':Ph} {h h':ah} {w w':World} {i:Nat} (f:Fr φ (h.put i none) w φ' h' w'):Fr φ h w φ' h' w':=by
 have cX:∀j p,(h.put i none).get j=some p→h.get j=some p:=fun j p hj=>by
  by_cases e:i=j
  · subst e;rw[ah.bx] at hj;simp at hj
  · rw[ah.bf e] at hj;exact hj
 exact ⟨f.ext,f.old,f.nx,f.os,f.tape,f.output,f.size,fun b hb hn=>f.sj b hb (fun j p m hj=>hn j p m (cX j p hj)),
  fun j p m hj hr hm=>(f.own j p m hj hr hm).imp id (fun ⟨k,q,n,a,b⟩=>⟨k,q,n,cX k q a,b⟩)⟩
theorem iO {φ:Ph} {x:AV} {n:Nat} (h:jq x=some n) {x':Value} (hx:VR φ x x') (P:Program) (w:World):(Builtin.lenOf x').run P w= .ok n w:=by
 cases x<;>simp [jq] at h
 · subst h
   generalize BJ:AV.str _=s0 at hx
   cases hx<;>cases BJ
   rfl
 · cases hx;subst h;rfl
 · cases hx;subst h;rfl
 · cases hx;subst h;rfl
theorem rG {P:Program} {w:World} {sT xT ty elem:TypeId} {kx:IntKind} (hs:P.underlying sT=some (.slice elem)) (hx:P.underlying xT=some (.int kx))
 {size bytes:Nat} (cB:(P.info? elem).map (·.size)=some size) (fP:(P.info? elem).map (·.bytes)=some bytes) {z:Value} (hz:∀w,(zeroValue elem).run P w= .ok z w) (Kg:z.cells.size=size)
 {k:IntKind} {n:Int} (hn:0<n) (JS:0<size) (va:(4*n.toNat+4096)*(bytes+1)≤1099511627776):
 ∃nc:Nat,∃C:Array Value,n.toNat≤nc∧(∃rest,C.toList=(Builtin.zeroCells z.cells n.toNat).toList++rest)∧C.size=nc*size∧
  (Builtin.append_ #[sT,xT] ty #[.slice none 0 0,.int k n]).run P w= .ok (.slice (some ⟨w.heap.size,0,none⟩) n.toNat nc) (w.drew.alloc (.cells C elem)):=by
 let nc:=(Question.appendCap (0+n.toNat) 0 elem).cut (w.tape w.drawn (.appendCap (0+n.toNat) 0 elem))
 have Gh:n.toNat≤nc:=by show n.toNat≤0+n.toNat+_;omega
 let C:Array Value:= #[]++Builtin.zeroCells z.cells n.toNat++Builtin.zeroCells z.cells (nc -(0+n.toNat))
 refine ⟨nc,C,Gh,⟨(Builtin.zeroCells z.cells (nc -(0+n.toNat))).toList,by simp [C]⟩,?_,?_⟩
 · simp only[C,Array.size_append,iN,Kg,Array.size_empty,Nat.zero_add]
   rw[←Nat.add_mul];congr 1;omega
 · obtain ⟨inf,zk,hb⟩:=jR fP w
   obtain ⟨Ty,Gi,Mp⟩:=jR fP w.drew
   have hmul:(4*n.toNat+4096)*(bytes+1)=(4*n.toNat+4096)*bytes+(4*n.toNat+4096):=by rw[Nat.mul_add,Nat.mul_one]
   have Gg:n.toNat≤1099511627776:=by omega
   have P2:IntKind.i64.wrap n=n:=by
    rw[IntKind.wrap_i64];omega
   have Tz:¬n<0:=by omega
   have vb:n*(bytes:Int)=((n.toNat*bytes:Nat):Int):=by rw[Int.natCast_mul,Int.toNat_of_nonneg (by omega)]
   have hle:n.toNat*bytes≤(4*n.toNat+4096)*bytes:=Nat.mul_le_mul_right _ (by omega)
   have P3:¬n*(bytes:Int) >2^48:=by rw[vb];omega
   have Nt:¬0+n.toNat≤0:=by omega
   have Nu:=nextslicecap_le (show 0<0+n.toNat by omega)
   have BR:¬Builtin.nextslicecap (0+n.toNat) 0*bytes>2^48:=by
    have:Builtin.nextslicecap (0+n.toNat) 0*bytes≤(4*(0+n.toNat)+4096)*bytes:=Nat.mul_le_mul_right _ Nu
    rw[Nat.zero_add] at this
    rw[Nat.zero_add]
    omega
   have Nv:IntKind.i64.max=9223372036854775807:=by decide
   have xp:¬(((0+n.toNat:Nat):Int) >IntKind.i64.max):=by rw[Nv];omega
   have SJ:¬n.toNat*size=0:=by
    have h1:0<n.toNat:=by omega
    have:=Nat.mul_pos h1 JS;omega
   have z1:=hz w.drew
   have hf:((!true)=true)=False:=by simp
   have XW:∀w,(asInt (.int k n)).run P w= .ok n w:=fun _=>rfl
   simp only[Builtin.append_,List.getElem?_toArray,List.getElem?_cons_zero,List.getElem?_cons_succ,Sem.run_bind,Sem.run_pure,Result.andThen_ok,run_underlying hs,run_underlying hx,b5 cB,if_true,XW,P2]
   rw[if_neg Tz]
   simp only[Sem.run_bind,zk,hb,Result.andThen_ok]
   rw[if_neg P3]
   simp only[Sem.run_bind,Sem.run_pure,Result.andThen_ok]
   rw[if_neg Nt]
   simp only[Sem.run_bind,Result.andThen_ok,zk,hb]
   rw[if_neg (fun h=>xp h.1)]
   simp only[Sem.run_bind,zk,hb,Result.andThen_ok]
   rw[if_neg BR]
   simp only[Sem.run_bind,run_choose,Question.forced,Bool.false_eq_true,if_false,World.drew_eq,Result.andThen_ok,Gi,run_askRoom,Builtin.firstCells,hf,if_neg SJ,z1,newRow,run_newObj,World.alloc_eq,Sem.run_pure]
   simp only[nc,C,Nat.zero_add]
   rfl
theorem zl {φ:Ph} {h h':ah} {w:World} (ok:OK E φ h w) {argTypes:Array TypeId} {s x v:AV} (e:bq E h argTypes s x=some (v,h')) {s' x':Value} (hs:VR φ s s') (hx:VR φ x x') (ty:TypeId):
 En E φ h w ((Builtin.append_ argTypes ty #[s',x']).run E.P w) v h':=by
 unfold bq at e
 split at e
 · rename_i sT xT Wj Wk
   split at e
   · rename_i elem xd Pv Pw
     split at e
     · rename_i hint
       cases xd<;>simp [gz] at hint
       have key:(Builtin.append_ argTypes ty #[s',x']).run E.P w=(Builtin.append_ #[sT,xT] ty #[s',x']).run E.P w:=by
        unfold Builtin.append_;simp only[Wj,Wk];rfl
       rw[key]
       unfold lI at e
       split at e
       · rename_i k0 k size bytes z cB fP hzero
         split at e
         · rename_i hc
           obtain ⟨hk,JS,va,Nq⟩:=hc
           split at e
           · rename_i h1 qS
             simp at e;obtain ⟨rfl,rfl⟩:=e
             cases hs;cases hx
             obtain ⟨z',rE,fl⟩:=d_ hzero
             have Kg:z'.cells.size=size:=by have:=(rE φ).cells.1;simp at this;omega
             obtain ⟨nc,C,Gh,⟨rest,hC⟩,FL,dq⟩:=rG (P:=E.P) (w:=w) (ty:=ty) (k:=k0) Pv Pw cB fP fl Kg hk JS va
             rw[dq]
             exact ow (n:=k.toNat) ok qS (l:=(Builtin.zeroCells z'.cells k.toNat).toList) (BN (rE φ).cells k.toNat) cB hC FL Gh (by rw[Array.length_toList,iN,Kg])
           · simp at e
         · simp at e
       · simp at e
     rename_i P4
     have Kf:∀k,xd≠ .int k:=fun k he=>by subst he;simp [gz] at P4
     split at e
     · rename_i size bytes n cB fP hlen
       split at e
       · rename_i new z sE hzero
         split at e
         · rename_i hc
           obtain ⟨Nq,ov,Mq⟩:=hc
           obtain ⟨z',rE,fl⟩:=d_ hzero
           have Kg:z'.cells.size=size:=by have:=(rE φ).cells.1;simp at this;omega
           obtain ⟨ly,vh,ox⟩:=sD ok hx sE (.inr trivial)
           have Gg:ly.length=n*size:=by rw[←vh.1];exact Mq
           have key:(Builtin.append_ argTypes ty #[s',x']).run E.P w=(Builtin.append_ #[sT,xT] ty #[s',x']).run E.P w:=by
            unfold Builtin.append_;simp only[Wj,Wk];rfl
           rw[key]
           split at e
           ·
            cases hs
            split at e
            · rename_i JQ
              simp at e;obtain ⟨rfl,rfl⟩:=e
              subst JQ
              refine ⟨φ,w,_,?_,.aK,ok,Fr.refl φ h w⟩
              have Ns:(match xd with | .int _=>true | _=>false)=false:=by cases xd<;>first | rfl | exact absurd rfl (Kf _)
              have hf:((!false)=true)=True:=by simp
              have SK:=ox w rfl
              simp only[Builtin.append_,List.getElem?_toArray,List.getElem?_cons_zero,List.getElem?_cons_succ,Sem.run_bind,Sem.run_pure,Result.andThen_ok,run_underlying Pv,run_underlying Pw,b5 cB,hf,Bool.false_eq_true,if_false,if_true,iO hlen hx,SK,Nat.le_refl,Nat.add_zero]
            · rename_i JQ
              split at e
              · rename_i va
                split at e
                · rename_i h1 qS
                  simp at e;obtain ⟨rfl,rfl⟩:=e
                  obtain ⟨nc,C,Gh,⟨rest,hC⟩,FL,dq⟩:=lh (P:=E.P) (w:=w) (ty:=ty) Pv Pw Kf cB fP fl Kg (base:=none) (len:=0) (cap:=0) (fun w=>iO hlen hx E.P w) (old:=[]) (fun w' _=>by simp [Builtin.firstCells]) (fun w' hw=>ox w' hw) (by omega) (by simpa using va) (by simp) Gg
                  have:=ow (n:=n) ok qS (l:=[]++ly) (by simpa using vh) (by simpa using cB) (by simpa using hC) FL (by omega) (by simp [Gg])
                  rw[dq]
                  simp only[Nat.zero_add] at this ⊢
                  exact this
                · simp at e
              · simp at e
           · rename_i i o len cap op
             cases hs with
             | @slice _ l _ _ _ _ hφ=>
             split at e
             · rename_i cs el hg
               split at e
               ·
                rename_i P5
                split at e
                · rename_i hle
                  simp at e;obtain ⟨rfl,rfl⟩:=e
                  have No:cap≤cO op cap l.dH:=by unfold cO;split<;>omega
                  obtain ⟨w',er,jT,lx⟩:=pV ok hg hφ vh (o+len*size) (by rw[Mq,Nat.add_assoc,←Nat.add_mul];exact hle) ov
                  refine ⟨φ,w',_,jW (P:=E.P) Pv Pw Kf cB (fun w=>iO hlen hx E.P w) (ox w rfl) (by omega) (by rw[Nat.add_assoc];exact er),?_,jT,lx⟩
                  have:=VR.slice (φ:=φ) o (len+n) cap op hφ
                  exact this
                · simp at e
               · rename_i P5
                 split at e
                 · rename_i Ga
                   obtain ⟨va,JR,jP⟩:=Ga
                   split at e
                   · rename_i h1 qS
                     simp at e;obtain ⟨rfl,rfl⟩:=e
                     obtain ⟨C0,e0,lo,hi,Nr,SL⟩:=ok.cells hg hφ
                     obtain ⟨Ki,zm,P6,BS⟩:=SL.range o (len*size) JR
                     have Kj:∀cp w',w'.heap=w.heap→(Builtin.firstCells size len (.slice (some ⟨l.cH,l.off+o,none⟩) len cp)).run E.P w'= .ok Ki.toArray w':=fun cp w' hw=>by
                      rw[←hw] at Nr
                      have sx:=im (P:=E.P) Nr (l.off+o) Ki P6
                      rw[zm] at sx
                      simp only[Builtin.firstCells,sx]
                     by_cases Pu:len+n≤cO op cap l.dH
                     ·
                      have TA:op=true:=by
                       cases op with
                       | true=>rfl
                       | false=>simp [cO] at Pu;omega
                      subst TA
                      obtain ⟨rfl,PV⟩:=jP rfl
                      simp only[cO,if_true] at Pu ⊢
                      simp only[if_true] at qS
                      have F9:=SL.size
                      simp only[cx,cB,Option.getD_some] at F9
                      have hmul:(len+n)*size≤(cap+l.dH)*size:=Nat.mul_le_mul_right _ Pu
                      have e1:(len+n)*size=len*size+n*size:=Nat.add_mul _ _ _
                      have e2:(cap+l.dH)*size=cap*size+l.dH*size:=Nat.add_mul _ _ _
                      have er:=np (P:=E.P) Nr (l.off+o+len*size) ly (by omega) (fun k k1 k2=>SL.free rfl k (by omega) (by simp only[cx,cB,Option.getD_some];omega)) (sC vh ov)
                      obtain ⟨p1,p2,p3⟩:=lP ly w l.cH (l.off+o+len*size)
                      obtain ⟨jT,lx⟩:=ok.reuse (w':=w.setCells l.cH (l.off+o+len*size) ly) (l':=⟨l.cH,l.off+o,cap+l.dH -(len+n)⟩) hg rfl hφ rfl qS (by
                       refine ⟨eX C0 (l.off+o+len*size) ly,e0,lo,hi,jG ly Nr _,?_,fun k x hk=>?_,fun _ k a b=>SL.free rfl k (by simp at a;omega) ?_,fun h=>by cases h⟩
                       · simp only[cx,cB,Option.getD_some,lO,List.length_append,BS.1,zm,vh.1,Gg]
                         rw[Nat.sub_mul];omega
                       · show ∃y,(eX C0 (l.off+o+len*size) ly)[l.off+o+k]? =some y∧_
                         rw[nE]
                         by_cases SM:k<len*size
                         · rw[List.getElem?_append_left (by rw[BS.1,zm];exact SM)] at hk
                           obtain ⟨y,hy,hr⟩:=BS.get hk
                           rw[if_neg (by omega)]
                           exact ⟨y,P6 k y hy,hr.mono (fun j m hm=>by
                            unfold Ph.add
                            split
                            · rename_i ej;subst ej;exact absurd (ok.qL _ _ hm) (Nat.lt_irrefl _)
                            · exact hm)⟩
                         · rw[List.getElem?_append_right (by rw[BS.1,zm];omega)] at hk
                           obtain ⟨y,hy,hr⟩:=vh.get hk
                           have XX:k -((List.take (len*size) (List.drop o cs)).length)<ly.length:=(List.getElem?_eq_some_iff.1 hy).1
                           rw[BS.1,zm] at XX hy
                           rw[if_pos (by omega)]
                           exact ⟨y,by rw[show l.off+o+k -(l.off+o+len*size)=k - len*size by omega];exact hy,hr.mono (fun j m hm=>by
                            unfold Ph.add
                            split
                            · rename_i ej;subst ej;exact absurd (ok.qL _ _ hm) (Nat.lt_irrefl _)
                            · exact hm)⟩
                       · simp only[cx,cB,Option.getD_some,List.length_append,BS.1,zm,vh.1,Gg] at b ⊢
                         rw[Nat.sub_mul] at b;omega)
                       (fun c bY=>eY ly (Ne.symm bY) _) (jH _ _ _ _) p1 p2 p3
                      refine ⟨_,_,_,jW (P:=E.P) Pv Pw Kf cB (fun w=>iO hlen hx E.P w) (ox w rfl) Pu er,?_,jT,lx⟩
                      have:=VR.slice (φ:=φ.add h.nx ⟨l.cH,l.off+o,cap+l.dH -(len+n)⟩) (i:=h.nx) (l:=⟨l.cH,l.off+o,cap+l.dH -(len+n)⟩) 0 (len+n) (len+n) true (by simp [Ph.add])
                      simp only[cO,if_true] at this
                      rw[show len+n+(cap+l.dH -(len+n))=cap+l.dH by omega] at this
                      exact this
                     ·
                      obtain ⟨nc,C,Gh,⟨rest,hC⟩,FL,dq⟩:=lh (P:=E.P) (w:=w) (ty:=ty) Pv Pw Kf cB fP fl Kg (base:=some ⟨l.cH,l.off+o,none⟩) (len:=len) (cap:=cO op cap l.dH) (fun w=>iO hlen hx E.P w) (old:=Ki) (fun w' hw=>Kj _ w' hw) (fun w' hw=>ox w' hw) (by omega) va zm Gg
                      rw[dq]
                      have su:=BS.append vh
                      have SI:(Ki++ly).length=(len+n)*size:=by rw[List.length_append,zm,Gg,Nat.add_mul]
                      cases op with
                      | false=>exact ow ok qS su cB hC FL Gh SI
                      | true=>
                        obtain ⟨φ',w',v',a1,a2,a3,a4⟩:=ow ok.kill qS su cB hC FL Gh SI
                        exact ⟨φ',w',v',a1,a2,a3,a4.Kh⟩
                   · simp at e
                 · simp at e
             · simp at e
           · simp at e
         · simp at e
       · simp at e
     · simp at e
   · simp at e
 · simp at e
end Go.Ab
end
section
namespace Go.Ab
variable {E:Env}
theorem Eo {φ:Ph} {h h':ah} {w:World} (ok:OK E φ h w) {argTypes:Array TypeId} {s d v:AV} (e:nm E h argTypes d s=some (v,h')) {s' d':Value} (hd:VR φ d d') (hs:VR φ s s') (ty:TypeId):
 En E φ h w ((Builtin.copy_ argTypes ty #[d',s']).run E.P w) v h':=by
 unfold nm at e
 split at e
 · rename_i dT Wl
   split at e
   · rename_i elem m hu hm
     split at e
     · rename_i size cB
       simp at e;obtain ⟨rfl,rfl⟩:=e
       cases hd
       refine ⟨φ,w,_,?_,.int .i64 0,ok,Fr.refl φ h w⟩
       have h0:Nat.min m 0=0:=Nat.min_eq_right (Nat.zero_le _)
       obtain ⟨ly,_,ox⟩:∃ly:List Value,True∧(Builtin.firstCells size 0 s').run E.P w= .ok ly.toArray w:=by
        cases s<;>simp [jq] at hm
        · generalize BJ:AV.str _=s0 at hs
          cases hs<;>cases BJ
          refine ⟨[],trivial,?_⟩
          simp [Builtin.firstCells]
        · cases hs;exact ⟨[],trivial,by simp [Builtin.firstCells]⟩
        · cases hs;exact ⟨[],trivial,by simp [Builtin.firstCells,loadCells,loadCellsFrom]⟩
        · cases hs;exact ⟨[],trivial,by simp [Builtin.firstCells,loadCells,loadCellsFrom]⟩
       simp only[Builtin.copy_,Wl,List.getElem?_toArray,List.getElem?_cons_zero,List.getElem?_cons_succ,Sem.run_bind,Result.andThen_ok,run_underlying hu,iO hm hs,h0,b5 cB,ox,Sem.run_pure]
       rfl
     · rename_i size i o len _ _ cB
       split at e
       · rename_i new cs el sE hg
         split at e
         · rename_i hc
           simp at e;obtain ⟨rfl,rfl⟩:=e
           cases hd with
           | @slice _ l _ _ _ _ hφ=>
           obtain ⟨ly,vh,ox⟩:=sD ok hs sE (.inr trivial)
           obtain ⟨w',er,jT,lx⟩:=pV ok hg hφ vh o hc.1 hc.2
           refine ⟨φ,w',_,?_,.int .i64 _,jT,lx⟩
           have h0:Nat.min m len=min m len:=rfl
           simp only[Builtin.copy_,Wl,List.getElem?_toArray,List.getElem?_cons_zero,List.getElem?_cons_succ,Sem.run_bind,Result.andThen_ok,run_underlying hu,iO hm hs,h0,b5 cB,ox w rfl,er,Sem.run_pure]
           rfl
         · simp at e
       · simp at e
     · simp at e
   · simp at e
 · simp at e
theorem zn {w:World} {b n:Nat} {C:Array Value} {e:TypeId} (h:w.heap[b]? =some (.cells C e)):(w.freeze ⟨b,n,none⟩ 1).heap[b]? =some (.cells C e (n,n+1)):=by
 simp [World.freeze,Array.getElem?_modify,h]
theorem xq {w:World} {b c n:Nat} (h:b≠c):(w.freeze ⟨b,n,none⟩ 1).heap[c]? =w.heap[c]? :=by
 simp [World.freeze,Array.getElem?_modify,h]
theorem zo (w:World) (b n:Nat):(w.freeze ⟨b,n,none⟩ 1).heap.size=w.heap.size:=by simp [World.freeze]
theorem Ep {φ:Ph} {h h':ah} {w:World} (ok:OK E φ h w) {src dst:TypeId} {x:AV} {v:AV} (e:gS E h src dst (some x)=some (v,h')) {x':Value} (hx:VR φ x x'):
 En E φ h w ((convert src dst x').run E.P w) v h':=by
 unfold gS at e
 split at e
 · rename_i el s hs hd xb
   simp at xb;subst xb
   generalize BJ:AV.str s=s0 at hx
   cases hx<;>cases BJ
   rename_i s'
   split at e
   · rename_i h1 he hn
     split at e
     · rename_i F9
       simp at e;obtain ⟨rfl,rfl⟩:=e
       have e1:s'.size=s'.data.toList.length:=by cases s';rfl
       let nc:=(Question.appendCap s'.size 0 el).cut (w.tape w.drawn (.appendCap s'.size 0 el))
       have Gh:s'.size≤nc:=by show s'.size≤s'.size+_;omega
       let C:Array Value:=(s'.data.map fun b=>Value.int .u8 b.toNat)++Array.replicate (nc - s'.size) (.int .u8 0)
       have FL:C.size=nc:=by
        have e0:s'.size=s'.data.size:=rfl
        have:C.size=s'.data.size+(nc - s'.size):=by simp only[C,Array.size_append,Array.size_map,Array.size_replicate]
        omega
       have vc:(w.drew.alloc (.cells C el)).heap=w.heap.push (.cells C el):=rfl
       have P7:(w.drew.alloc (.cells C el)).heap[w.heap.size]? =some (.cells C el):=by rw[vc];simp
       obtain ⟨jT,lx,hle⟩:=ok.fresh (w':=(w.drew.alloc (.cells C el)).freeze ⟨w.heap.size,nc,none⟩ 1) hn ⟨w.heap.size,0,nc - s'.size⟩ (by
        refine ⟨C,el,nc,nc+1,zn P7,?_,fun k x hk=>?_,fun _ k _ b=>?_,fun _ _ _=>rfl⟩
        · simp only[cx,F9,Option.getD_some,FL,List.length_map];rw[←e1];omega
        · rw[List.getElem?_map] at hk
          cases hb:s'.data.toList[k]? with
          | none=>rw[hb] at hk;simp at hk
          | some b=>
            rw[hb] at hk;simp at hk;subst hk
            have SH:k<s'.data.toList.length:=(List.getElem?_eq_some_iff.1 hb).1
            refine ⟨.int .u8 b.toNat,?_,.int _ _⟩
            have:C[0+k]? =(s'.data.map fun b=>Value.int .u8 b.toNat)[k]? :=by
             simp only[C,Nat.zero_add];rw[Array.getElem?_append_left (by simpa using SH)]
            show C[0+k]? =_
            rw[this]
            rw[Array.getElem?_map]
            have Mp:s'.data[k]? =some b:=by simpa using hb
            rw[Mp];rfl
        · simp only[cx,F9,Option.getD_some,List.length_map] at b;rw[←e1] at b;omega)
        (fun c bY hc=>by
         rw[xq (Ne.symm bY),vc,Array.getElem?_push,if_neg (by omega)]) (by rw[zo,vc];simp) (Nat.le_refl _) rfl rfl rfl
       refine ⟨_,_,.slice (some ⟨w.heap.size,0,none⟩) s'.size nc,?_,?_,jT,lx⟩
       · have XY:(w.drew.alloc (.cells C el)).shape? w.heap.size=some (el,nc):=by
          simp only[World.shape?,P7,FL]
         simp only[convert,Sem.run_bind,run_underlying hs,run_underlying hd,Result.andThen_ok,run_underlying he,Conv.stringToBytes,run_choose,Question.forced,Bool.false_eq_true,if_false,World.drew_eq,newRow,run_newObj,World.alloc_eq,Sem.run_pure,markStringish]
         rw[show (Question.appendCap s'.size 0 el).cut (w.tape w.drawn (Question.appendCap s'.size 0 el))=nc from rfl,show (Array.map (fun b=>Value.int .u8 b.toNat) s'.data++Array.replicate (nc - s'.size) (Value.int .u8 0))=C from rfl]
         simp only[World.size_drew,run_shape,XY,Result.andThen_ok,run_freeze]
       · have:=VR.slice (φ:=φ.add h.nx ⟨w.heap.size,0,nc - s'.size⟩) (i:=h.nx) (l:=⟨w.heap.size,0,nc - s'.size⟩) 0 s'.size s'.size true (by simp [Ph.add])
         simp only[cO,if_true] at this
         rw[show s'.size+(nc - s'.size)=nc by omega] at this
         exact this
     · simp at e
   · simp at e
 · simp at e
theorem kr {φ:Ph} {v:AV} {v':Value} (hv:VR φ v v') {k':Value}:∀{es:List fA} {fu:List MapEntry} (_:F0 φ es fu) (i:Nat) (_:∀e,es[i]? =some e→VR φ e.key k'),
 F0 φ (fN es i v) (fu.modify i fun e=>{e with key:=k',val:=v'})
 | [],fu,h,i,_=>by
   cases fu with
   | nil=>simpa [fN] using h
   | cons _ _=>simp [F0] at h
 | e::es,fu,h,i,hk=>by
   obtain ⟨hl,Bo⟩:=h
   cases fu with
   | nil=>simp at hl
   | cons y ys=>
     have h0:=Bo 0 e y (by simp) (by simp)
     have iM:F0 φ es ys:=⟨by simpa using hl,fun i a b p q=>Bo (i+1) a b (by simpa using p) (by simpa using q)⟩
     cases i with
     | zero=>
       simp only[fN,List.modify_zero_cons]
       refine ⟨by simpa using hl,fun j a b p q=>?_⟩
       cases j with
       | zero=>simp at p q;subst p;subst q;exact ⟨hk e (by simp),hv,h0.born⟩
       | succ j=>simp at p q;exact iM.2 j a b p q
     | succ i=>
       simp only[fN,List.modify_succ_cons]
       obtain ⟨g1,g2⟩:=kr hv iM i (fun e he=>hk e (by simpa using he))
       refine ⟨by simp [g1],fun j a b p q=>?_⟩
       cases j with
       | zero=>simp at p q;subst p;subst q;exact h0
       | succ j=>simp at p;exact g2 j a b p (by simpa using q)
theorem Kk (s:ByteArray):(s==s)=true:=by cases s;rename_i d;show (d==d)=true;simp
theorem xr {φ:Ph} {k j:AV} (e:vB k j=some true) {k' j':Value} (h:VR φ k k') (h':VR φ j j'):Instr.sameBits 10000 j' k'=true∧j'=k':=by
 unfold vB at e
 split at e
 · generalize hs:AV.str _=s at h
   generalize kn:AV.str _=s' at h'
   cases h<;>cases hs
   cases h'<;>cases kn
   rename_i s s'
   simp at e
   have:s'=s:=by cases s;cases s';simp_all
   subst this
   exact ⟨by simp only[Instr.sameBits];exact Kk _,rfl⟩
 · cases h;cases h'
   split at e
   · rename_i sy
     simp at e;subst e;subst sy
     exact ⟨by simp [Instr.sameBits],rfl⟩
   · simp at e
 · cases h;cases h'
   simp at e;subst e
   exact ⟨by simp [Instr.sameBits],rfl⟩
 · simp at e
theorem lT {φ:Ph} {h h':ah} {w:World} (ok:OK E φ h w) {t:TypeId} {m k v:AV} {m' k' v':Value} (hm:VR φ m m') (hk:VR φ k k') (hv:VR φ v v') (e:b9 E h t m k v=some h'):
 ∃w',(Instr.mapUpdate t m' k' v').run E.P w= .ok () w'∧OK E φ h' w'∧Fr φ h w φ h' w':=by
 unfold b9 at e
 split at e
 · rename_i key elem i hu
   cases hm with
   | @map _ l hφ=>
   split at e
   · rename_i es clock hg
     split at e
     · rename_i sy
       have BL:∃d,E.P.underlying key=some d∧dN (some d) k=true:=by
        cases hd:E.P.underlying key with
        | none=>rw[hd] at sy;simp [dN] at sy
        | some d=>rw[hd] at sy;exact ⟨d,rfl,sy⟩
       obtain ⟨d,hd,sB⟩:=BL
       have u_:=ok.live i _ l hg hφ
       obtain ⟨Gc,fu,hb,fC⟩:=u_
       have vg:(getObj l.cH).run E.P w= .ok (.map fu clock) w:=by simp [getObj,Sem.run,hb]
       have Bp:=ko (P:=E.P) hd sB hk false 9999 w
       have pW:∀o':Obj,(setObj l.cH o').run E.P w= .ok () {w with heap:=w.heap.setIfInBounds l.cH o'}:=fun o'=>by simp [setObj,Sem.run,hb]
       have Nw:∀(o:aF) (o':Obj),OR E φ o l (some o')→o.rw=true→OK E φ (h.put i (some o)) {w with heap:=w.heap.setIfInBounds l.cH o'}∧Fr φ h w φ (h.put i (some o)) {w with heap:=w.heap.setIfInBounds l.cH o'}:=fun o o' ho za=>by
        have gC:l.cH<w.heap.size:=by
         rcases Nat.lt_or_ge l.cH w.heap.size with a | a
         · exact a
         · rw[Array.getElem?_eq_none a] at hb;simp at hb
        exact ok.change hg rfl hφ (by simp [gC];exact ho) (fun c bY=>by simp [Ne.symm bY]) (by simp) rfl rfl rfl
       split at e
       · rename_i j v0 hf
         obtain ⟨r',h1,h2⟩:=jV sB hk fC hf
         cases r' with
         | none=>exact h2.elim
         | some q=>
         obtain ⟨j',v1⟩:=q
         obtain ⟨rfl,Bo,_,Nx,pU,Gj⟩:=h2
         simp at e;subst e
         obtain ⟨y,hy⟩:∃y,fu.toList[j]? =some y:=by
          have gC:j<es.length:=by simpa using (List.getElem?_eq_some_iff.1 pU).1
          exact ⟨fu.toList[j]'(by rw[←fC.1];exact gC),by simp⟩
         have P9:=fC.2 j Nx y (by simpa using pU) hy
         obtain ⟨Ny,Nz⟩:=xr Gj hk P9.key
         have Kl:fu[j]? =some y:=by simpa using hy
         obtain ⟨jT,lx⟩:=Nw (.map (fN es j v) clock) (.map (fu.modify j fun e=>{e with key:=k',val:=v'}) clock) ⟨Gc,_,rfl,by
          have:=kr hv fC j (k':=k') (fun e he=>by
           have:e=Nx:=by
            have h3:es[j]? =some Nx:=by simpa using pU
            rw[h3] at he;simp at he;exact he.symm
           subst this;rw[←Nz];exact P9.key)
          simpa using this⟩ rfl
         refine ⟨_,?_,jT,lx⟩
         simp only[Instr.mapUpdate,Sem.run_bind,run_underlying hu,Result.andThen_ok,vg,Bp,Instr.findKey,run_underlying hd,h1,Sem.run_pure,Kl,Option.map_some,Option.getD_some,Instr.keyThatStays,Ny,if_true,pW _]
       · rename_i hf
         obtain ⟨r',h1,h2⟩:=jV sB hk fC hf
         cases r' with
         | some q=>exact h2.elim
         | none=>
         simp at e;subst e
         obtain ⟨jT,lx⟩:=Nw (.map (es++[{key:=k,val:=v,born:=clock}]) (clock+1)) (.map (fu.push {key:=k',val:=v',born:=clock}) (clock+1)) ⟨Gc,_,rfl,by
          refine ⟨by simp [fC.1],fun j a b p q=>?_⟩
          rw[Array.toList_push] at q
          by_cases hj:j<es.length
          · rw[List.getElem?_append_left hj] at p
            rw[List.getElem?_append_left (by rw[←fC.1];exact hj)] at q
            exact fC.2 j a b p q
          · rw[List.getElem?_append_right (by omega)] at p
            rw[List.getElem?_append_right (by rw[←fC.1];omega),←fC.1] at q
            cases P_:j - es.length with
            | zero=>rw[P_] at p q;simp at p q;subst p;subst q;exact ⟨hk,hv,rfl⟩
            | succ n=>rw[P_] at p;simp at p⟩ rfl
         refine ⟨_,?_,jT,lx⟩
         simp only[Instr.mapUpdate,Sem.run_bind,run_underlying hu,Result.andThen_ok,vg,Bp,Instr.findKey,run_underlying hd,h1,Sem.run_pure,pW _]
       · simp at e
     · split at e
       · rename_i sy
         have BL:∃d,E.P.underlying key=some d∧gO E (some d) k=true:=by
          cases hd:E.P.underlying key with
          | none=>rw[hd] at sy;simp [gO] at sy
          | some d=>rw[hd] at sy;exact ⟨d,rfl,sy⟩
         obtain ⟨d,hd,sB⟩:=BL
         have u_:=ok.live i _ l hg hφ
         obtain ⟨Gc,fu,hb,fC⟩:=u_
         have vg:(getObj l.cH).run E.P w= .ok (.map fu clock) w:=by simp [getObj,Sem.run,hb]
         have Bp:=lS hd sB hk false 9998 w
         have pW:∀o':Obj,(setObj l.cH o').run E.P w= .ok () {w with heap:=w.heap.setIfInBounds l.cH o'}:=fun o'=>by simp [setObj,Sem.run,hb]
         have Nw:∀(o:aF) (o':Obj),OR E φ o l (some o')→o.rw=true→OK E φ (h.put i (some o)) {w with heap:=w.heap.setIfInBounds l.cH o'}∧Fr φ h w φ (h.put i (some o)) {w with heap:=w.heap.setIfInBounds l.cH o'}:=fun o o' ho za=>by
          have gC:l.cH<w.heap.size:=by
           rcases Nat.lt_or_ge l.cH w.heap.size with a | a
           · exact a
           · rw[Array.getElem?_eq_none a] at hb;simp at hb
          exact ok.change hg rfl hφ (by simp [gC];exact ho) (fun c bY=>by simp [Ne.symm bY]) (by simp) rfl rfl rfl
         split at e
         · rename_i j v0 hf
           obtain ⟨r',h1,h2⟩:=jU hk fC hf
           cases r' with
           | none=>exact h2.elim
           | some q=>
           obtain ⟨j',v1⟩:=q
           obtain ⟨rfl,Bo,_,Nx,pU,Gj⟩:=h2
           simp at e;subst e
           obtain ⟨y,hy⟩:∃y,fu.toList[j]? =some y:=by
            have gC:j<es.length:=by simpa using (List.getElem?_eq_some_iff.1 pU).1
            exact ⟨fu.toList[j]'(by rw[←fC.1];exact gC),by simp⟩
           have P9:=fC.2 j Nx y (by simpa using pU) hy
           obtain ⟨Ny,Nz⟩:=Gj hk P9.key
           have Kl:fu[j]? =some y:=by simpa using hy
           obtain ⟨jT,lx⟩:=Nw (.map (fN es j v) clock) (.map (fu.modify j fun e=>{e with key:=k',val:=v'}) clock) ⟨Gc,_,rfl,by
            have:=kr hv fC j (k':=k') (fun e he=>by
             have:e=Nx:=by
              have h3:es[j]? =some Nx:=by simpa using pU
              rw[h3] at he;simp at he;exact he.symm
             subst this;rw[←Nz];exact P9.key)
            simpa using this⟩ rfl
           refine ⟨_,?_,jT,lx⟩
           simp only[Instr.mapUpdate,Sem.run_bind,run_underlying hu,Result.andThen_ok,vg,Bp,ir hd sB hk (h1 w),Sem.run_pure,Kl,Option.map_some,Option.getD_some,Instr.keyThatStays,Ny,if_true,pW _]
         · rename_i hf
           obtain ⟨r',h1,h2⟩:=jU hk fC hf
           cases r' with
           | some q=>exact h2.elim
           | none=>
           simp at e;subst e
           obtain ⟨jT,lx⟩:=Nw (.map (es++[{key:=k,val:=v,born:=clock}]) (clock+1)) (.map (fu.push {key:=k',val:=v',born:=clock}) (clock+1)) ⟨Gc,_,rfl,by
            refine ⟨by simp [fC.1],fun j a b p q=>?_⟩
            rw[Array.toList_push] at q
            by_cases hj:j<es.length
            · rw[List.getElem?_append_left hj] at p
              rw[List.getElem?_append_left (by rw[←fC.1];exact hj)] at q
              exact fC.2 j a b p q
            · rw[List.getElem?_append_right (by omega)] at p
              rw[List.getElem?_append_right (by rw[←fC.1];omega),←fC.1] at q
              cases P_:j - es.length with
              | zero=>rw[P_] at p q;simp at p q;subst p;subst q;exact ⟨hk,hv,rfl⟩
              | succ n=>rw[P_] at p;simp at p⟩ rfl
           refine ⟨_,?_,jT,lx⟩
           simp only[Instr.mapUpdate,Sem.run_bind,run_underlying hu,Result.andThen_ok,vg,Bp,ir hd sB hk (h1 w),Sem.run_pure,pW _]
         · simp at e
       · simp at e
   · simp at e
 · simp at e
theorem xu {s:ByteArray} {pos:Nat} {b:UInt8} (h:s.data.toList[pos]? =some b) (hb:b.toNat<128):Utf8.decode s pos=(b.toNat,1):=by
 have hl:pos<s.size:=(List.getElem?_eq_some_iff.1 h).1
 have Mp:s[pos]'hl=b:=by
  have:=(List.getElem?_eq_some_iff.1 h).2
  rw[←this];rfl
 rw[decode_ascii s pos hl (by rw[Mp];exact hb),Mp]
set_option linter.unusedSimpArgs false in
theorem Er {φ:Ph} {h h':ah} {w:World} (ok:OK E φ h w) {it v:AV} {b:Bool} (e:vC h it b=some (v,h')) {Wm:Value} (XZ:VR φ it Wm) (ty:TypeId):
 En E φ h w ((Instr.next Wm b ty).run E.P w) v h':=by
 unfold vC at e
 split at e
 · rename_i r
   cases XZ with
   | @ptr _ l _ hφ=>
   split at e
   · rename_i s pos hg
     have u_:=ok.live r _ l hg hφ
     obtain ⟨Gc,s',hb,kn⟩:=u_
     have vg:(getObj l.cH).run E.P w= .ok (.stringIter s' pos) w:=by simp [getObj,Sem.run,hb]
     have e1:s'.size=s.length:=by rw[←kn];cases s';rfl
     split at e
     · rename_i gC
       split at e
       · rename_i c hc
         split at e
         · rename_i TB
           simp at e;obtain ⟨rfl,rfl⟩:=e
           have pW:(setObj l.cH (.stringIter s' (pos+1))).run E.P w= .ok () {w with heap:=w.heap.setIfInBounds l.cH (.stringIter s' (pos+1))}:=by simp [setObj,Sem.run,hb]
           have TC:l.cH<w.heap.size:=by
            rcases Nat.lt_or_ge l.cH w.heap.size with a | a
            · exact a
            · rw[Array.getElem?_eq_none a] at hb;simp at hb
           obtain ⟨jT,lx⟩:=ok.change (w':={w with heap:=w.heap.setIfInBounds l.cH (.stringIter s' (pos+1))}) (o':= .nj s (pos+1)) hg rfl hφ (by simp [TC];exact ⟨Gc,s',rfl,kn⟩) (fun c bY=>by simp [Array.getElem?_setIfInBounds,Ne.symm bY]) (by simp) rfl rfl rfl
           refine ⟨φ,_,.tuple #[.bool true,.int .i64 pos,.int .i32 c.toNat],?_,VR.tuple' (dI:=[.bool true,.int .i64 pos,.int .i32 c.toNat]) (.cons (.bool true) (.cons (.int _ _) (.cons (.int _ _) (.nil φ)))),jT,lx⟩
           have TD:=xu (s:=s') (pos:=pos) (b:=c) (by rw[kn];exact hc) TB
           have h0:l.off+0=0:=by omega
           simp only[Instr.next,h0,Sem.run_bind,vg,Result.andThen_ok,e1,gC,if_true,TD,pW,Sem.run_pure,goInt]
         · simp at e
       · simp at e
     · rename_i gC
       simp at e;obtain ⟨rfl,rfl⟩:=e
       refine ⟨φ,w,.tuple #[.bool false],?_,VR.tuple' (dI:=[.bool false]) (.cons (.bool false) (.nil φ)),ok,Fr.refl φ h w⟩
       have h0:l.off+0=0:=by omega
       simp only[Instr.next,h0,Sem.run_bind,vg,Result.andThen_ok,e1,gC,if_false,Sem.run_pure]
   · rename_i s1 s2 s3 hg
     have u_:=ok.live r _ l hg hφ
     obtain ⟨Gc,hb⟩:=u_
     have vg:(getObj l.cH).run E.P w= .ok (.mapIter none s1 s2.toArray s3) w:=by simp [getObj,Sem.run,hb]
     simp at e;obtain ⟨rfl,rfl⟩:=e
     refine ⟨φ,w,.tuple #[.bool false],?_,VR.tuple' (dI:=[.bool false]) (.cons (.bool false) (.nil φ)),ok,Fr.refl φ h w⟩
     have h0:l.off+0=0:=by omega
     simp only[Instr.next,h0,Sem.run_bind,vg,Result.andThen_ok,Sem.run_pure]
   · simp at e
 · simp at e
end Go.Ab
end
section
namespace Go.Ab
variable {E:Env}
def DR (φ:Ph):iI→Deferred→Prop
 | .call f args,d'=>∃cap,d'.target= .fn (.func f) cap∧LR φ args (d'.args++cap).toList
 | .Pn r,d'=>∃l,φ r=some l∧d'.target= .collected l.cH
def Mr (φ:Ph):List iI→List Deferred→Prop
 | [],[]=>True
 | d::ds,d'::pX=>DR φ d d'∧Mr φ ds pX
 | _,_=>False
theorem DR.mono {φ φ':Ph} (hle:φ.le φ') {d:iI} {d':Deferred} (h:DR φ d d'):DR φ' d d':=by
 cases d with
 | call f args=>obtain ⟨c,a,b⟩:=h;exact ⟨c,a,b.mono hle⟩
 | Pn r=>obtain ⟨l,a,b⟩:=h;exact ⟨l,hle _ _ a,b⟩
theorem Mr.mono {φ φ':Ph} (hle:φ.le φ'):∀{ds:List iI} {pX:List Deferred} (_:Mr φ ds pX),Mr φ' ds pX
 | [],[],_=>trivial
 | _::_,_::_,h=>⟨h.1.mono hle,Mr.mono hle h.2⟩
structure SR (φ:Ph) (ts:List AV) (ds:List iI) (a:Act):Prop where
 ts:LR φ ts a.tmps.toList
 ds:Mr φ ds a.defers
theorem SR.mono {φ φ':Ph} (hle:φ.le φ') {ts:List AV} {ds:List iI} {a:Act} (h:SR φ ts ds a):SR φ' ts ds a:=⟨h.ts.mono hle,h.ds.mono hle⟩
def ia (φ:Ph) (b:Frame) (K:Bool→List Frame):RC→Prop
 | .no=>b.roundOf=none∧∀fr:Frame,fr.kind=b.kind→tryRecover fr (K false)=none
 | .dV v=>b.roundOf=none∧(∃v',VR φ v v'∧∀fr:Frame,fr.kind=b.kind→tryRecover fr (K false)=some (v',K true))∧∀fr:Frame,fr.kind=b.kind→tryRecover fr (K true)=none
 | .done=>b.roundOf=none∧∀fr:Frame,fr.kind=b.kind→tryRecover fr (K true)=none
 | .y_ l=>∃ll,φ l=some ll∧b.roundOf=some ll.cH
def cur (K:Bool→List Frame):RC→List Frame
 | .done=>K true
 | _=>K false
def RC.iP:RC→Bool
 | .y_ _=>true
 | _=>false
theorem ia.mono {φ φ':Ph} (hle:φ.le φ') {b:Frame} {K:Bool→List Frame}:∀{rc:RC} (_:ia φ b K rc),ia φ' b K rc
 | .no,h=>h
 | .dV _,h=>let ⟨n,⟨v',a,b⟩,c⟩:=h;⟨n,⟨v',a.mono hle,b⟩,c⟩
 | .done,h=>h
 | .y_ _,h=>let ⟨l,a,b⟩:=h;⟨l,hle _ _ a,b⟩
theorem ia.plain {φ:Ph} {b:Frame} {K:Bool→List Frame} {rc:RC} (h:ia φ b K rc) (hn:rc.iP=false):b.roundOf=none:=by
 cases rc with
 | no=>exact h.1
 | dV v=>exact h.1
 | done=>exact h.1
 | y_ l=>simp [RC.iP] at hn
inductive NA (φ:Ph):fi→Exit→Prop
 | normal:NA φ .normal .normal
 | exit (id:Nat):NA φ (.exit id) (.exit id)
 | ret:NA φ .ret .ret
 | panic (v:AV) (v':Value) (h:VR φ v v'):NA φ (.panic v) (.panic [{v:=v',recovered:=false}])
def eA (E:Env) (f:FuncId) (args:List AV) (h:ah) (v:AV) (h':ah):Prop:=
 ∀(φ:Ph) (w:World) (vs:List Value),OK E φ h w→LR φ args vs→(callFunc f vs.toArray).run E.P w= .ok (.enter f vs.toArray) w∧
  ∀cs,∃φ' w' v' fr,VR φ' v v'∧OK E φ' h' w'∧Fr φ h w φ' h' w'∧
   Steps E.P (lone (Frame.enter E.P f vs.toArray .normal) cs w) (lone fr cs w')∧fr.fn=f∧fr.leaving E.P w' (.returned v')
def C4 (E:Env) (f:FuncId) (args:List AV) (h:ah) (v:AV) (h':ah):Prop:=
 ∀(φ:Ph) (w:World) (vs:List Value),OK E φ h w→LR φ args vs→(callFunc f vs.toArray).run E.P w= .ok (.enter f vs.toArray) w∧
  ∀cs,∃φ' w' v' fr,VR φ' v v'∧OK E φ' h' w'∧Fr φ h w φ' h' w'∧
   Steps E.P (lone (Frame.enter E.P f vs.toArray .normal) cs w) (lone fr cs w')∧fr.fn=f∧fr.leaving E.P w' (.panicked [{v:=v',recovered:=false}])
inductive iQ (E:Env) (φ:Ph) (w:World):Fn→List Value→Next→Frame→Prop
 | fn (f:FuncId) (vs:List Value) (hr:(callFunc f vs.toArray).run E.P w= .ok (.enter f vs.toArray) w):iQ E φ w (.fn f) vs (.enter f vs.toArray) (Frame.enter E.P f vs.toArray .normal)
 | qK (l:Nat) (ll:Loc) (hl:φ l=some ll) (vs:List Value) (f:FuncId) (tmps:Array Value) (assign body:Code) (hr:(Instr.yield ll.cH vs.toArray).run E.P w= .ok (.round ll.cH f tmps assign body) w):
  iQ E φ w (.qK l) vs (.round ll.cH f tmps assign body) (Frame.round ll.cH f tmps assign body .normal)
def Gk (φ:Ph):Fn→Prop
 | .fn _=>True
 | .qK l=>∃ll,φ l=some ll
def BT (E:Env) (F:Fn) (args:List AV) (h:ah) (v:AV) (h':ah):Prop:=
 ∀(φ:Ph) (w:World) (vs:List Value),OK E φ h w→Gk φ F→LR φ args vs→∃n start,iQ E φ w F vs n start∧
  ∀c cs,∃φ' w' v',VR φ' v v'∧OK E φ' h' w'∧Fr φ h w φ' h' w'∧Steps E.P (lone start (c::cs) w) (lone (c.finish v') cs w')
def BU (E:Env) (F:Fn) (args:List AV) (h:ah) (v:AV) (h':ah):Prop:=
 ∀(φ:Ph) (w:World) (vs:List Value),OK E φ h w→Gk φ F→LR φ args vs→∃n start,iQ E φ w F vs n start∧
  ∀c cs,∃φ' w' v',VR φ' v v'∧OK E φ' h' w'∧Fr φ h w φ' h' w'∧Steps E.P (lone start (c::cs) w) (lone (c.raise [{v:=v',recovered:=false}]) cs w')
theorem eA.any {f:FuncId} {args:List AV} {h:ah} {v:AV} {h':ah} (r:eA E f args h v h'):BT E (.fn f) args h v h':=fun φ w vs ok _ hl=>by
 obtain ⟨h1,h2⟩:=r φ w vs ok hl
 refine ⟨_,_,.fn f vs h1,fun c cs=>?_⟩
 obtain ⟨φ',w',v',fr,x1,x2,x3,x4,_,x5⟩:=h2 (c::cs)
 exact ⟨φ',w',v',x1,x2,x3,x4.trans (.one (step_leave_returned x5))⟩
theorem C4.any {f:FuncId} {args:List AV} {h:ah} {v:AV} {h':ah} (r:C4 E f args h v h'):BU E (.fn f) args h v h':=fun φ w vs ok _ hl=>by
 obtain ⟨h1,h2⟩:=r φ w vs ok hl
 refine ⟨_,_,.fn f vs h1,fun c cs=>?_⟩
 obtain ⟨φ',w',v',fr,x1,x2,x3,x4,_,x5⟩:=h2 (c::cs)
 exact ⟨φ',w',v',x1,x2,x3,x4.trans (.one (step_leave_panicked x5))⟩
structure dy (E:Env) (call:aI):Prop where
 ret:∀f args h v h',call f args h= .ret v h'→BT E f args h v h'
 panic:∀f args h v h',call f args h= .panic v h'→BU E f args h v h'
structure fm (E:Env):Prop where
 ext:Mo E
 dM:∀f g,E.dM f=some g→∀args h v h',g args h=some (v,h')→eA E f args h v h'
 names:∀(f:FuncId) (fn:Func),E.P.funcs[f]? =some fn→fn.name≠ "runtime.NumGoroutine"
 mixed:E.P.follows .mixedOrders=true
theorem Gl {φ:Ph} {ts:List AV} {a:Act} (h:LR φ ts a.tmps.toList) (d:Option Tmp) {v:AV} {v':Value} (hv:VR φ v v'):LR φ (bR ts d v) (a.put d v').tmps.toList:=by
 cases d with
 | none=>exact h
 | some d=>simp only[bR,Act.put,Array.toList_setIfInBounds];exact h.set hv d
theorem put_defers (a:Act) (d:Option Tmp) (v:Value):(a.put d v).defers=a.defers:=by cases d<;>rfl
theorem SR.put {φ:Ph} {ts:List AV} {ds:List iI} {a:Act} (h:SR φ ts ds a) (d:Option Tmp) {v:AV} {v':Value} (hv:VR φ v v'):SR φ (bR ts d v) ds (a.put d v'):=
 ⟨Gl h.ts d hv,by rw[put_defers];exact h.ds⟩
theorem nH {φ:Ph} {ops:Array Oper} {ts:List AV} {a:Act} (h:LR φ ts a.tmps.toList) (o:Oper):Region.wanted o (yielded ops a.tmps)=bp ops ts o:=by
 unfold Region.wanted bp
 cases o.guard with
 | none=>rfl
 | some g=>
   obtain ⟨j,want⟩:=g
   simp only[yielded]
   cases hd:(ops[j]?).bind (·.dst) with
   | none=>simp
   | some d=>
     simp only[Option.bind_some]
     cases hx:ts[d]? with
     | none=>
       have:a.tmps[d]? =none:=by
        have h1:=List.getElem?_eq_none_iff.1 hx
        rw[h.1] at h1
        have:=List.getElem?_eq_none_iff.2 h1
        simpa using this
       simp [this]
     | some x=>
       obtain ⟨y,hy,hv⟩:=h.get hx
       have Kl:a.tmps[d]? =some y:=by simpa using hy
       rw[Kl]
       cases hv with
       | any _ h=>cases y<;>first | (simp;done) | cases h
       | _=>simp
section
variable {b:Frame} {a:Act} {k:List Item} {cs:List Frame} {w:World} {ops:Array Oper} {i:Nat} {rest:List Nat} {o:Oper}
theorem mQ (ho:ops[i]? =some o) (v:Value):(b.atR a (.inRegion ops (i::rest)::k)).finish v=b.atR (a.put o.dst v) (.inRegion ops rest::k):=by
 rw[Frame.finish_atR,ho];rfl
theorem gT {P:Program} (fD:o.semAt b.roundOf a.eval=execOp a.eval o) (ho:ops[i]? =some o) (hw:Region.wanted o (yielded ops a.tmps)=true) {v:Value} {w':World} (hr:(execOp a.eval o).run P w= .ok (.value v) w'):
 step P (lone (b.atR a (.inRegion ops (i::rest)::k)) cs w)= .next (lone (b.atR (a.put o.dst v) (.inRegion ops rest::k)) cs w'):=by
 rw[←mQ ho]
 exact step_lone_go (by rw[stepGR_op (rest:=rest) ho hw,fD];simp [stepG.apply,hr])
theorem zp {P:Program} (fD:o.semAt b.roundOf a.eval=execOp a.eval o) (ho:ops[i]? =some o) (hw:Region.wanted o (yielded ops a.tmps)=true) {w':World} (hr:(execOp a.eval o).run P w= .ok .skip w'):
 step P (lone (b.atR a (.inRegion ops (i::rest)::k)) cs w)= .next (lone (b.atR (a.put o.dst undef) (.inRegion ops rest::k)) cs w'):=by
 rw[←mQ ho]
 exact step_lone_go (by rw[stepGR_op (rest:=rest) ho hw,fD];simp [stepG.apply,hr])
theorem oA {φ:Ph} (fD:o.semAt b.roundOf a.eval=execOp a.eval o) (ho:ops[i]? =some o) (hw:Region.wanted o (yielded ops a.tmps)=true) {F:Fn} {vs:List Value} {n:Next} {start:Frame} (hp:iQ E φ w F vs n start) (hr:(execOp a.eval o).run E.P w= .ok n w):
 step E.P (lone (b.atR a (.inRegion ops (i::rest)::k)) cs w)= .next (lone start (b.atR a (.inRegion ops (i::rest)::k)::cs) w):=by
 cases hp with
 | fn f vs _=>exact step_lone_go (by rw[stepGR_op (rest:=rest) ho hw,fD];simp [stepG.apply,hr,Frame.atR])
 | qK l ll hl vs f tmps assign body _=>exact step_lone_go (by rw[stepGR_op (rest:=rest) ho hw,fD];simp [stepG.apply,hr,Frame.atR])
theorem Gm {P:Program} (fD:o.semAt b.roundOf a.eval=execOp a.eval o) (ho:ops[i]? =some o) (hw:Region.wanted o (yielded ops a.tmps)=true) {v:Value} {w':World} (hr:(execOp a.eval o).run P w= .halt (.panic v) w'):
 step P (lone (b.atR a (.inRegion ops (i::rest)::k)) cs w)= .next (lone {b.atR a (.inRegion ops (i::rest)::k) with mode:= .panicking [{v,recovered:=false}]} cs w'):=by
 rw[←Frame.raise_atR]
 exact step_lone_go (by rw[stepGR_op (rest:=rest) ho hw,fD];simp [stepG.apply,hr])
theorem Es {P:Program} (fD:o.semAt b.roundOf a.eval=execOp a.eval o) (ho:ops[i]? =some o) (hw:Region.wanted o (yielded ops a.tmps)=true) {d:Deferred} {w':World} (hr:(execOp a.eval o).run P w= .ok (.defer d) w'):
 step P (lone (b.atR a (.inRegion ops (i::rest)::k)) cs w)= .next (lone (b.atR ({a with defers:=d::a.defers}.put o.dst undef) (.inRegion ops rest::k)) cs w'):=by
 have:({b.atR a (.inRegion ops (i::rest)::k) with defers:=d::a.defers}:Frame).finish undef=
  b.atR ({a with defers:=d::a.defers}.put o.dst undef) (.inRegion ops rest::k):=by
  have:=Frame.finish_atR b {a with defers:=d::a.defers} ops i rest k undef
  rw[ho] at this;exact this
 refine step_lone_go ?_
 rw[stepGR_op (rest:=rest) ho hw,fD]
 simp only[stepG.apply,Sem.runT_eq,hr,GStep.bare_after]
 exact congrArg (fun fr=>GStep.go {frame:=fr,callers:=cs,status:= .running,dying:=none} w') this
theorem BW {P:Program} (pY:b.roundOf=none) (fD:o.semAt b.roundOf a.eval=execOp a.eval o) (ho:ops[i]? =some o) (hw:Region.wanted o (yielded ops a.tmps)=true) {w':World} (hr:(execOp a.eval o).run P w= .ok .recover w') {v:Value} {dI:List Frame}
 (ht:tryRecover (b.atR a (.inRegion ops (i::rest)::k)) cs=some (v,dI)):
 step P (lone (b.atR a (.inRegion ops (i::rest)::k)) cs w)= .next (lone (b.atR (a.put o.dst v) (.inRegion ops rest::k)) dI w'):=by
 rw[←mQ ho]
 refine step_lone_go ?_
 rw[stepGR_op (rest:=rest) ho hw,fD]
 have Gn:(b.atR a (.inRegion ops (i::rest)::k)).roundOf=none:=pY
 simp only[stepG.apply,Sem.runT_eq,if_true,hr,GStep.bare_after,Gn,ht,GStep.bare_go]
theorem nr {P:Program} (pY:b.roundOf=none) (fD:o.semAt b.roundOf a.eval=execOp a.eval o) (ho:ops[i]? =some o) (hw:Region.wanted o (yielded ops a.tmps)=true) {w':World} (hr:(execOp a.eval o).run P w= .ok .recover w')
 (ht:tryRecover (b.atR a (.inRegion ops (i::rest)::k)) cs=none):
 step P (lone (b.atR a (.inRegion ops (i::rest)::k)) cs w)= .next (lone (b.atR (a.put o.dst .nilIface) (.inRegion ops rest::k)) cs w'):=by
 rw[←mQ ho]
 refine step_lone_go ?_
 rw[stepGR_op (rest:=rest) ho hw,fD]
 have Gn:(b.atR a (.inRegion ops (i::rest)::k)).roundOf=none:=pY
 simp only[stepG.apply,Sem.runT_eq,if_true,hr,GStep.bare_after,Gn,ht,GStep.bare_go]
end
def P' (P:Program) (m:Machine) (b:Frame) (ops:Array Oper) (rest:List Nat) (k:List Item) (cs:List Frame):Exit→Act→World→Prop
 | .normal,a,w=>Steps P m (lone (b.atR a (.inRegion ops rest::k)) cs w)
 | .panic chain,a,w=>∃todo,Steps P m (lone {b.atR a todo with mode:= .panicking chain} cs w)
 | _,_,_=>False
def C5 (φ:Ph):Fn→Target→List Value→List Value→Prop
 | .fn f,t,vs,all=>∃cap:List Value,t= .fn (.func f) cap.toArray∧all=vs++cap
 | .qK l,t,vs,all=>∃ll,φ l=some ll∧t= .fn (.yield ll.cH) #[]∧all=vs
theorem C5.Qa {φ:Ph} {F:Fn} {t:Target} {vs all:List Value} (h:C5 φ F t vs all):Gk φ F:=by
 cases F with
 | fn f=>trivial
 | qK l=>obtain ⟨ll,h,_⟩:=h;exact ⟨ll,h⟩
theorem sF {φ:Ph} (hg:GL E φ) {ts:List AV} {a:Act} (ht:LR φ ts a.tmps.toList) {c:Call} {f:Fn} {args:List AV} (h:callee E ts c=some (f,args)) (ty:TypeId):
 ∃(t:Target) (vs all:List Value),LR φ args all∧C5 φ f t vs all∧∀w,(resolve a.eval c ty).run E.P w= .ok {target:=t,args:=vs.toArray} w:=by
 unfold callee at h
 split at h
 · rename_i x Wn
   split at h
   · rename_i g first captured as_ hx has
     simp at h;obtain ⟨rfl,rfl⟩:=h
     have h1:=hZ hg ht hx
     have h2:=dx hg ht has
     generalize fG:a.eval x=cv at h1
     obtain ⟨Km,dI,rfl,hf,hc⟩:=h1.sh
     refine ⟨.fn (.func g) dI.toList.toArray,Km.toList++c.args.toList.map a.eval,_,?_,⟨dI.toList,rfl,rfl⟩,fun w=>?_⟩
     · rw[List.append_assoc]
       have:=(hf.append h2).append hc
       simpa [List.append_assoc] using this
     · simp [resolve,Wn,Deferred.ofValue,fG,map_toArray]
   · rename_i l as_ hx has
     simp at h;obtain ⟨rfl,rfl⟩:=h
     have h1:=hZ hg ht hx
     have h2:=dx hg ht has
     generalize fG:a.eval x=cv at h1
     cases h1 with
     | yield hl=>
       refine ⟨_,c.args.toList.map a.eval,_,h2,⟨_,hl,rfl,rfl⟩,fun w=>?_⟩
       simp [resolve,Wn,Deferred.ofValue,fG,map_toArray]
   · simp at h
 · simp at h
theorem vi {φ:Ph} {w:World} {F:Fn} {t:Target} {vs all:List Value} (ht:C5 φ F t vs all) {n:Next} {start:Frame} (hp:iQ E φ w F all n start):(invoke t vs.toArray).run E.P w= .ok n w:=by
 cases hp with
 | fn f jw hr=>
   obtain ⟨cap,rfl,rfl⟩:=ht
   simpa [invoke] using hr
 | qK l ll hl jw f tmps assign body hr=>
   obtain ⟨ll',JT,rfl,rfl⟩:=ht
   rw[hl] at JT;simp at JT;subst JT
   simpa [invoke] using hr
theorem ks {φ:Ph} {b:Frame} {K:Bool→List Frame} {rc:RC} (cU:ia φ b K rc) {o:Oper} (h:rc.iP=false∨∀c,o.op≠ .defer c) (ρ:Operand→Value):o.semAt b.roundOf ρ=execOp ρ o:=by
 rcases h with h | h
 · rw[cU.plain h];rfl
 · exact Oper.semAt_eq _ _ _ h
end Go.Ab
end
section
namespace Go.Ab
variable {E:Env}
theorem sG {rc:RC} (h:∀l,rc= .y_ l→False):rc.iP=false:=by
 cases rc<;>first | rfl | exact (h _ rfl).elim
theorem OK.gl {φ:Ph} {h:ah} {w:World} (ok:OK E φ h w):GL E φ:=ok.lN
inductive lU (E:Env) (call:aI) (φ:Ph) (ts:List AV) (h:ah) (rc:RC) (o:Oper) (a:Act) (w:World):pO→Prop
 | val (v:AV) (h':ah) (φ':Ph) (w':World) (v':Value) (hv:VR φ' v v') (ok:OK E φ' h' w') (fr:Fr φ h w φ' h' w')
  (run:(execOp a.eval o).run E.P w= .ok (.value v') w'):lU E call φ ts h rc o a w (.val v h')
 | skip (h':ah) (φ':Ph) (w':World) (ok:OK E φ' h' w') (fr:Fr φ h w φ' h' w')
  (run:(execOp a.eval o).run E.P w= .ok .skip w'):lU E call φ ts h rc o a w (.val AV.undef h')
 | enter (v:AV) (h':ah) (F:Fn) (args:List AV) (all:List Value) (hr:BT E F args h v h') (hf:Gk φ F) (hl:LR φ args all)
  (run:∀n start,iQ E φ w F all n start→(execOp a.eval o).run E.P w= .ok n w):lU E call φ ts h rc o a w (.val v h')
 | Kn (v:AV) (h':ah) (F:Fn) (args:List AV) (all:List Value) (hr:BU E F args h v h') (hf:Gk φ F) (hl:LR φ args all)
  (run:∀n start,iQ E φ w F all n start→(execOp a.eval o).run E.P w= .ok n w):lU E call φ ts h rc o a w (.panic v h')
 | defer (d:iI) (d':Deferred) (vb:rc.iP=false) (hd:DR φ d d') (run:(execOp a.eval o).run E.P w= .ok (.defer d') w):lU E call φ ts h rc o a w (.defer d)
 | panic (v:AV) (v':Value) (hv:VR φ v v') (run:(execOp a.eval o).run E.P w= .halt (.panic v') w):lU E call φ ts h rc o a w (.panic v h)
 | lg (v:AV) (cU:rc= .dV v) (run:(execOp a.eval o).run E.P w= .ok .recover w):lU E call φ ts h rc o a w (.lg v)
 | Gp (cU:∀v,rc≠ .dV v) (vb:rc.iP=false) (run:(execOp a.eval o).run E.P w= .ok .recover w):lU E call φ ts h rc o a w (.val .nilIface h)
 | fail (why:String) (q:Option Oper):lU E call φ ts h rc o a w (.fail why q)
theorem zq {t:TypeId} {name:String} {f:FuncId} (h:oh E t name=some f) (v:Value) (w:World):(method (E.P.types.size+Made.depth) t v name).run E.P w= .ok (f,v) w:=by
 unfold oh at h
 split at h
 · rename_i i hi
   split at h
   · rename_i m hm
     split at h
     · rename_i hp
       split at h
       · simp at h
       · rename_i g d bY hf hu
         simp at h;subst h
         have El:m.path.toList=[]:=by simpa using hp
         have e:E.P.types.size+Made.depth=(E.P.types.size+99)+1:=rfl
         rw[e,method]
         have X1:(typeInfo t).run E.P w= .ok i w:=by simp [typeInfo,hi]
         simp only[Sem.run_bind,X1,Result.andThen_ok,hm,El,follow,Sem.run_pure,hf,receiverAt,run_underlying hu]
         cases d with
         | pointer x=>exact absurd rfl (bY x)
         | _=>simp [Place.get]
       · simp at h
     · simp at h
   · simp at h
 · simp at h
theorem oB {call:aI} {φ:Ph} {ts:List AV} {h:ah} {rc:RC} {o:Oper} {a:Act} {w:World} {s:Sem Value} {v:AV} {h':ah} (hd:En E φ h w (s.run E.P w) v h')
 (he:execOp a.eval o=(do pure (.value (←s)):Sem Next)):lU E call φ ts h rc o a w (.val v h'):=by
 obtain ⟨φ',w',v',hr,hv,ok,fr⟩:=hd
 exact .val v h' φ' w' v' hv ok fr (by rw[he];exact cj hr)
set_option maxHeartbeats 1000000 in
theorem nI (hE:fm E) {call:aI} (bG:dy E call) {φ:Ph} {ts:List AV} {h:ah} {rc:RC} {o:Oper} {a:Act} {w:World} (ht:LR φ ts a.tmps.toList) (ok:OK E φ h w):
 lU E call φ ts h rc o a w (bF E call ts h rc o):=by
 have ev:∀{x:Operand} {v:AV},b8 E ts x=some v→VR φ v (a.eval x):=fun h=>hZ ok.gl ht h
 obtain ⟨dst,op,ty,pos,after,guard⟩:=o
 unfold bF
 simp only
 split
 ·
  split
  · rename_i ha hx
    split
    · rename_i h' er
      obtain ⟨w',hr,jT,lx⟩:=BP ok (ev ha) (ev hx) er
      exact .skip h' φ w' jT lx (by simp [execOp,hr])
    · exact .fail _ _
  · exact .fail _ _
 ·
  split
  · rename_i hm hk hx
    split
    · rename_i h' er
      obtain ⟨w',hr,jT,lx⟩:=lT ok (ev hm) (ev hk) (ev hx) er
      exact .skip h' φ w' jT lx (by simp [execOp,hr])
    · exact .fail _ _
  · exact .fail _ _
 ·
  split
  · rename_i hm hk hx
    split
    · rename_i h' er
      obtain ⟨w',hr,jT,lx⟩:=lT ok (ev hm) (ev hk) (ev hx) er
      exact .skip h' φ w' jT lx (by simp [execOp,hr])
    · exact .fail _ _
  · exact .fail _ _
 ·
  rename_i src dst x
  split
  · rename_i v h' hc
    cases hx:b8 E ts x with
    | none=>rw[hx] at hc;simp [gS] at hc
    | some xv=>
      rw[hx] at hc
      exact oB (Ep ok hc (ev hx)) rfl
  · exact .fail _ _
 ·
  split
  · rename_i hi
    split
    · rename_i hn
      exact oB (Er ok hn (ev hi) ty) rfl
    · exact .fail _ _
  · exact .fail _ _
 ·
  split
  · rename_i hx
    have h1:=ev hx
    generalize fG:a.eval _=cv at h1
    cases h1 with
    | iface t1 v1 v' hv=>
    exact .panic _ _ (.iface _ _ v' hv) (by simp [execOp,fG,Instr.panic])
  · exact .fail _ _
 ·
  split
  · exact .fail _ _
  · rename_i f args vb hc
    obtain ⟨t,vs,all,hl,⟨cap,rfl,rfl⟩,hr⟩:=sF ok.gl ht hc ty
    exact .defer _ {target:= .fn (.func f) cap.toArray,args:=vs.toArray} (sG vb) ⟨cap.toArray,rfl,by simpa using hl⟩ (by simp [execOp,hr])
  · exact .fail _ _
 ·
  rename_i c
  split
  ·
   rename_i vj
   split
   · rename_i s x has
     have hl:=dx ok.gl ht has
     obtain ⟨s',r1,Qb,hs,TE⟩:=hl.bw
     obtain ⟨x',r2,TF,hx,Ms⟩:=TE.bw
     have h0:c.args.map a.eval= #[s',x']:=by rw[map_toArray,Qb,TF,Ms.dg]
     split
     · rename_i TG
       exact oB (zl ok TG hs hx ty) (by simp [execOp,resolve,vj,invoke,builtin,h0])
     · exact .fail _ _
   · exact .fail _ _
  ·
   rename_i vj
   split
   · rename_i s x has
     have hl:=dx ok.gl ht has
     obtain ⟨s',r1,Qb,hs,TE⟩:=hl.bw
     obtain ⟨x',r2,TF,hx,Ms⟩:=TE.bw
     have h0:c.args.map a.eval= #[s',x']:=by rw[map_toArray,Qb,TF,Ms.dg]
     split
     · rename_i TG
       exact oB (Eo ok TG hs hx ty) (by simp [execOp,resolve,vj,invoke,builtin,h0])
     · exact .fail _ _
   · exact .fail _ _
  ·
   rename_i vj
   have dq:(execOp a.eval ⟨dst,.call c,ty,pos,after,guard⟩).run E.P w= .ok .recover w:=by simp [execOp,resolve,vj,invoke,builtin]
   split
   · exact .lg _ rfl dq
   · exact .fail _ _
   · rename_i bY vb
     exact .Gp (fun v e=>bY v e) (sG vb) dq
  ·
   rename_i fo vj
   split
   · rename_i F args hc
     obtain ⟨t,vs,all,hl,TH,hr⟩:=sF ok.gl ht hc ty
     have dq:∀n start,iQ E φ w F all n start→(execOp a.eval ⟨dst,.call c,ty,pos,after,guard⟩).run E.P w= .ok n w:=fun n start hp=>by
      have:=vi TH hp
      simp [execOp,hr,this]
     split
     · rename_i g hg
       split
       · rename_i v h' X2
         cases F with
         | fn f=>exact .enter v h' (.fn f) args all (hE.dM f g hg args h v h' X2).any trivial hl dq
         | qK l=>simp [eN] at hg
       · exact .fail _ _
     · split
       · rename_i v h' fG
         exact .enter v h' F args all (bG.ret F args h v h' fG) TH.Qa hl dq
       · rename_i v h' fG
         exact .Kn v h' F args all (bG.panic F args h v h' fG) TH.Qa hl dq
       · exact .fail _ _
   · exact .fail _ _
  ·
   rename_i r name vj
   split
   · rename_i t x args hx has
     split
     · rename_i f hm
       have h1:=ev hx
       generalize fG:a.eval r=cv at h1
       cases h1 with
       | iface t1 v1 v' hv=>
       have hl:LR φ (x::args) (v'::c.args.toList.map a.eval):= .cons hv (dx ok.gl ht has)
       have dq:∀n start,iQ E φ w (.fn f) (v'::c.args.toList.map a.eval) n start→(execOp a.eval ⟨dst,.call c,ty,pos,after,guard⟩).run E.P w= .ok n w:=fun n start hp=>by
        cases hp with
        | fn f jw hr=>
        have e1:(#[v']++(c.args.map a.eval))=(v'::c.args.toList.map a.eval).toArray:=by rw[map_toArray];simp
        have e2:(#[Value.iface t v']++c.args.map a.eval).extract 1 (#[Value.iface t v']++c.args.map a.eval).size=c.args.map a.eval:=by
         apply Array.ext';simp
         exact List.take_of_length_le (by simp)
        have e3:(#[Value.iface t v']++c.args.map a.eval)[0]? =some (Value.iface t v'):=by rw[Array.getElem?_append];rfl
        simp only[execOp,resolve,vj,fG,Sem.run_bind,Sem.run_pure,Result.andThen_ok,invoke,e3,e2,callMethod,run_program,zq hm,e1,hr]
       split
       · rename_i v h' NB
         exact .enter v h' (.fn f) _ _ (bG.ret (.fn f) _ h v h' NB) trivial hl dq
       · rename_i v h' NB
         exact .Kn v h' (.fn f) _ _ (bG.panic (.fn f) _ h v h' NB) trivial hl dq
       · exact .fail _ _
     · exact .fail _ _
   · exact .fail _ _
  · exact .fail _ _
 · exact .fail _ _
structure Qc (E:Env) (φ:Ph) (h:ah) (w:World) (b:Frame) (K:Bool→List Frame) (ops:Array Oper) (rest:List Nat) (k:List Item) (m:Machine) (e:fi) (s':St):Prop where
 is:∃φ' w' a' e',NA φ' e e'∧SR φ' s'.ts s'.ds a'∧OK E φ' s'.h w'∧Fr φ h w φ' s'.h w'∧ia φ' b K s'.rc∧P' E.P m b ops rest k (cur K s'.rc) e' a' w'
set_option maxHeartbeats 1000000 in
theorem vK (hE:fm E) {call:aI} (bG:dy E call) {ops:Array Oper} {i:Nat} {rest:List Nat} {o:Oper} (ho:ops[i]? =some o) {s s':St} {e:fi} (jP:wX E call s o= .ok e s')
 {φ:Ph} {a:Act} {w:World} {b:Frame} {k:List Item} {K:Bool→List Frame} (hs:SR φ s.ts s.ds a) (ok:OK E φ s.h w) (cU:ia φ b K s.rc) (hw:Region.wanted o (yielded ops a.tmps)=true):
 Qc E φ s.h w b K ops rest k (lone (b.atR a (.inRegion ops (i::rest)::k)) (cur K s.rc) w) e s':=by
 have fD:(s.rc.iP=false∨∀c,o.op≠ .defer c)→o.semAt b.roundOf a.eval=execOp a.eval o:=fun h=>ks cU h _
 unfold wX at jP
 split at jP
 · rename_i v hp
   have jr:s.rc.iP=false∨∀c,o.op≠ .defer c:= .inr (fun c e=>by rw[e] at hp;simp [aL] at hp)
   simp at jP;obtain ⟨rfl,rfl⟩:=jP
   obtain ⟨v',hv,hr⟩:=qO hE.ext ok.gl hs.ts hp
   exact ⟨φ,w,_,_,.normal,hs.put o.dst hv,ok,Fr.refl _ _ _,cU,.one (gT (fD jr) ho hw (hr w))⟩
 · split at jP
   · rename_i v hp
     have jr:s.rc.iP=false∨∀c,o.op≠ .defer c:= .inr (fun c e=>by rw[e] at hp;simp [bW] at hp)
     simp at jP;obtain ⟨rfl,rfl⟩:=jP
     obtain ⟨v',hv,hr⟩:=qR ok.gl ok hs.ts hp
     exact ⟨φ,w,_,_,.normal,hs.put o.dst hv,ok,Fr.refl _ _ _,cU,.one (gT (fD jr) ho hw (hr w rfl))⟩
   · split at jP
     · rename_i obj mk hp
       have jr:s.rc.iP=false∨∀c,o.op≠ .defer c:= .inr (fun c e=>by rw[e] at hp;simp [bZ] at hp)
       split at jP
       · rename_i h' hn
         simp at jP;obtain ⟨rfl,rfl⟩:=jP
         obtain ⟨O,mk',zr,hr⟩:=ou ok.gl hs.ts hp
         obtain ⟨jT,lx,hle⟩:=ok.fresh (w':=w.alloc O) hn ⟨w.heap.size,0,0⟩ (by
          have:=zr.obj (φ.add s.h.nx ⟨w.heap.size,0,0⟩) w.heap.size (fun i m hm=>by
           unfold Ph.add;split
           · rename_i e;subst e;exact absurd (ok.qL _ _ hm) (Nat.lt_irrefl _)
           · exact hm)
          rw[show (w.alloc O).heap=w.heap.push O from rfl]
          simpa using this)
          (fun c bY hc=>by rw[show (w.alloc O).heap=w.heap.push O from rfl,Array.getElem?_push,if_neg (by simpa using bY)]) (by simp) (Nat.le_refl _) rfl rfl rfl
         have hv:=zr.val (φ.add s.h.nx ⟨w.heap.size,0,0⟩) s.h.nx w.heap.size hle (by simp [Ph.add])
         exact ⟨_,_,_,_,.normal,(hs.mono hle).put o.dst hv,jT,lx,cU.mono hle,.one (gT (fD jr) ho hw (hr w))⟩
       · simp at jP
     · have lV:=nI hE bG (rc:=s.rc) (o:=o) hs.ts ok
       have jr:(∃d,bF E call s.ts s.h s.rc o= .defer d)∨(∃why q,bF E call s.ts s.h s.rc o= .fail why q)∨(s.rc.iP=false∨∀c,o.op≠ .defer c):=by
        by_cases hd:∃c,o.op= .defer c
        · obtain ⟨c,hd⟩:=hd
          unfold bF
          simp only[hd]
          split
          · exact .inr (.inl ⟨_,_,rfl⟩)
          · exact .inl ⟨_,rfl⟩
          · exact .inr (.inl ⟨_,_,rfl⟩)
        · exact .inr (.inr (.inr (fun c e=>hd ⟨c,e⟩)))
       generalize bF E call s.ts s.h s.rc o=eo at jP lV jr
       cases lV with
       | val v h' φ' w' v' hv lD fr run=>
         have jr:=(jr.resolve_left (by simp)).resolve_left (by simp)
         simp at jP;obtain ⟨rfl,rfl⟩:=jP
         exact ⟨φ',w',_,_,.normal,(hs.mono fr.ext).put o.dst hv,lD,fr,cU.mono fr.ext,.one (gT (fD jr) ho hw run)⟩
       | skip h' φ' w' lD fr run=>
         have jr:=(jr.resolve_left (by simp)).resolve_left (by simp)
         simp at jP;obtain ⟨rfl,rfl⟩:=jP
         exact ⟨φ',w',_,_,.normal,(hs.mono fr.ext).put o.dst (VR.undef φ'),lD,fr,cU.mono fr.ext,.one (zp (fD jr) ho hw run)⟩
       | enter v h' F args all hr hf hl run=>
         have jr:=(jr.resolve_left (by simp)).resolve_left (by simp)
         simp at jP;obtain ⟨rfl,rfl⟩:=jP
         obtain ⟨n,start,hp,er⟩:=hr φ w all ok hf hl
         obtain ⟨φ',w',v',hv,lD,fr,eh⟩:=er (b.atR a (.inRegion ops (i::rest)::k)) (cur K s.rc)
         rw[mQ ho] at eh
         exact ⟨φ',w',_,_,.normal,(hs.mono fr.ext).put o.dst hv,lD,fr,cU.mono fr.ext,.head (oA (fD jr) ho hw hp (run n start hp)) eh⟩
       | Kn v h' F args all hr hf hl run=>
         have jr:=(jr.resolve_left (by simp)).resolve_left (by simp)
         simp at jP;obtain ⟨rfl,rfl⟩:=jP
         obtain ⟨n,start,hp,er⟩:=hr φ w all ok hf hl
         obtain ⟨φ',w',v',hv,lD,fr,eh⟩:=er (b.atR a (.inRegion ops (i::rest)::k)) (cur K s.rc)
         rw[Frame.raise_atR] at eh
         exact ⟨φ',w',a,_,.panic v v' hv,hs.mono fr.ext,lD,fr,cU.mono fr.ext,.inRegion ops (i::rest)::k,.head (oA (fD jr) ho hw hp (run n start hp)) eh⟩
       | defer d d' vb hd run=>
         simp at jP;obtain ⟨rfl,rfl⟩:=jP
         have h1:SR φ s.ts (d::s.ds) {a with defers:=d'::a.defers}:=⟨hs.ts,hd,hs.ds⟩
         exact ⟨φ,w,_,_,.normal,h1.put o.dst (VR.undef φ),ok,Fr.refl _ _ _,cU,.one (Es (ks cU (.inl vb) _) ho hw run)⟩
       | panic v v' hv run=>
         have jr:=(jr.resolve_left (by simp)).resolve_left (by simp)
         simp at jP;obtain ⟨rfl,rfl⟩:=jP
         exact ⟨φ,w,a,_,.panic v v' hv,hs,ok,Fr.refl _ _ _,cU,_,.one (Gm (fD jr) ho hw run)⟩
       | lg v TI run=>
         simp at jP;obtain ⟨rfl,rfl⟩:=jP
         rw[TI] at cU ⊢
         have Gq:=cU.plain rfl
         have Qd:=ks cU (o:=o) (.inl rfl) a.eval
         obtain ⟨_,⟨v',hv,X3⟩,Qe⟩:=cU
         exact ⟨φ,w,_,_,.normal,hs.put o.dst hv,ok,Fr.refl _ _ _,⟨Gq,Qe⟩,.one (BW Gq Qd ho hw run (X3 _ rfl))⟩
       | Gp bY vb run=>
         simp at jP;obtain ⟨rfl,rfl⟩:=jP
         have w_:∀fr:Frame,fr.kind=b.kind→tryRecover fr (cur K s.rc)=none:=by
          cases xw:s.rc with
          | no=>rw[xw] at cU;exact cU.2
          | dV v=>exact absurd xw (bY v)
          | done=>rw[xw] at cU;exact cU.2
          | y_ l=>rw[xw] at vb;simp [RC.iP] at vb
         exact ⟨φ,w,_,_,.normal,hs.put o.dst .nilIface,ok,Fr.refl _ _ _,cU,.one (nr (cU.plain vb) (ks cU (.inl vb) _) ho hw run (w_ _ rfl))⟩
       | fail why q=>simp at jP
end Go.Ab
end
section
namespace Go.Ab
variable {E:Env}
def vL (E:Env) (ts gB:List AV) (op:Op):Prop:=∀x∈op.operands,b8 E ts x=b8 E gB x
theorem oC {α β:Type} {f g:α→Option β}:∀{l:List α} (_:∀x∈l,f x=g x),bO f l=bO g l
 | [],_=>rfl
 | x::xs,h=>by simp only[bO,h x (by simp),oC (l:=xs) (fun y hy=>h y (by simp [hy]))]
theorem jy {ts gB:List AV} {l:List Operand} (h:∀x∈l,b8 E ts x=b8 E gB x):cF E ts l=cF E gB l:=oC h
theorem kt {ts gB:List AV}:∀{l:List (Nat×Operand)} (_:∀x∈l.map (·.2),b8 E ts x=b8 E gB x),eU E ts l=eU E gB l
 | [],_=>rfl
 | (i,o)::l,h=>by simp only[eU,h o (by simp),kt (l:=l) (fun y hy=>h y (by simp at hy ⊢;exact .inr hy))]
theorem lW {ts gB:List AV} {o:Option Operand} (h:∀x∈o.toArray,b8 E ts x=b8 E gB x):gQ E ts o=gQ E gB o:=by
 cases o with
 | none=>rfl
 | some o=>simp only[gQ,h o (by simp)]
theorem oD {ts gB:List AV} {c:Call} (h:∀x∈c.operands,b8 E ts x=b8 E gB x):callee E ts c=callee E gB c:=by
 unfold callee
 cases hc:c.callee with
 | value f=>
   have h1:b8 E ts f=b8 E gB f:=h f (by simp [Call.operands,hc])
   have h2:cF E ts c.args.toList=cF E gB c.args.toList:=jy (fun x hx=>h x (by simp [Call.operands,hc];exact .inr (by simpa using hx)))
   simp only[h1,h2]
 | invoke _ _=>rfl
 | builtin _=>rfl
theorem ib {ts gB:List AV} {c:Call} (h:∀x∈c.operands,b8 E ts x=b8 E gB x):cF E ts c.args.toList=cF E gB c.args.toList:=
 jy (fun x hx=>h x (by simp [Call.operands];exact .inr (by simpa using hx)))
theorem zt {ts gB:List AV} {op:Op} (h:vL E ts gB op):aL E ts op=aL E gB op:=by
 cases op with
 | call c=>
   have hc:=ib (E:=E) (ts:=ts) (gB:=gB) (c:=c) h
   obtain ⟨callee,args,argTypes⟩:=c
   simp only at hc
   cases callee with
   | builtin b=>cases b<;>simp only[aL,hc]
   | value f=>cases f<;>simp only[aL,hc]
   | invoke r m=>simp only[aL]
 | build t ps=>
   have:eU E ts ps.toList=eU E gB ps.toList:=kt (fun x hx=>h x (by simpa [Op.operands] using hx))
   simp only[aL,this]
 | makeFunc fn first captured=>
   cases fn with
   | func f=>
     have h1:cF E ts first.toList=cF E gB first.toList:=jy (fun x hx=>h x (by simp [Op.operands];exact .inl (by simpa using hx)))
     have h2:cF E ts captured.toList=cF E gB captured.toList:=jy (fun x hx=>h x (by simp [Op.operands];exact .inr (by simpa using hx)))
     simp only[aL,h1,h2]
   | _=>simp only[aL]
 | slice t x lo hi mx=>
   have h0:b8 E ts x=b8 E gB x:=h x (by simp [Op.operands])
   have h1:gQ E ts lo=gQ E gB lo:=lW (fun y hy=>h y (by simp [Op.operands] at hy ⊢;exact .inr (.inl hy)))
   have h2:gQ E ts hi=gQ E gB hi:=lW (fun y hy=>h y (by simp [Op.operands] at hy ⊢;exact .inr (.inr (.inl hy))))
   have h3:gQ E ts mx=gQ E gB mx:=lW (fun y hy=>h y (by simp [Op.operands] at hy ⊢;exact .inr (.inr (.inr hy))))
   simp only[aL,h0,h1,h2,h3]
 | move x=>simp only[aL,h x (by simp [Op.operands])]
 | assign x=>simp only[aL,h x (by simp [Op.operands])]
 | pick c a b=>simp only[aL,h c (by simp [Op.operands]),h a (by simp [Op.operands]),h b (by simp [Op.operands])]
 | nilCheck x=>simp only[aL,h x (by simp [Op.operands])]
 | binOp o t x y u=>simp only[aL,h x (by simp [Op.operands]),h y (by simp [Op.operands])]
 | unOp o t x=>simp only[aL,h x (by simp [Op.operands])]
 | convert s d x=>simp only[aL,h x (by simp [Op.operands])]
 | makeInterface t x=>simp only[aL,h x (by simp [Op.operands])]
 | fieldAddr s x f=>simp only[aL,h x (by simp [Op.operands])]
 | field s x f=>simp only[aL,h x (by simp [Op.operands])]
 | indexAddr t x i=>simp only[aL,h x (by simp [Op.operands]),h i (by simp [Op.operands])]
 | index t x i=>simp only[aL,h x (by simp [Op.operands]),h i (by simp [Op.operands])]
 | extract x i=>simp only[aL,h x (by simp [Op.operands])]
 | typeAssert x a b ok=>simp only[aL,h x (by simp [Op.operands])]
 | _=>simp only[aL]
theorem zu {ts gB:List AV} {op:Op} (h:vL E ts gB op) (hp:ah):bW E ts hp op=bW E gB hp op:=by
 cases op with
 | call c=>
   have hc:=ib (E:=E) (ts:=ts) (gB:=gB) (c:=c) h
   obtain ⟨callee,args,argTypes⟩:=c
   simp only at hc
   cases callee with
   | builtin b=>cases b<;>simp only[bW,hc]
   | value f=>simp only[bW]
   | invoke r m=>simp only[bW]
 | load t a=>simp only[bW,h a (by simp [Op.operands])]
 | convert s d x=>simp only[bW,h x (by simp [Op.operands])]
 | lookup t x i ok=>simp only[bW,h x (by simp [Op.operands]),h i (by simp [Op.operands])]
 | _=>simp only[bW]
theorem xx {ts gB:List AV} {op:Op} (h:vL E ts gB op):bZ E ts op=bZ E gB op:=by
 cases op with
 | buildSlice t n ps=>
   have:eU E ts ps.toList=eU E gB ps.toList:=kt (fun x hx=>h x (by simpa [Op.operands] using hx))
   simp only[bZ,this]
 | box t x=>simp only[bZ,h x (by simp [Op.operands])]
 | makeSlice t l c=>simp only[bZ,h l (by simp [Op.operands]),h c (by simp [Op.operands])]
 | makeMap t r=>
   cases r with
   | none=>simp only[bZ]
   | some r=>simp only[bZ,h r (by simp [Op.operands])]
 | range t x=>simp only[bZ,h x (by simp [Op.operands])]
 | _=>simp only[bZ]
theorem sH {call:aI} {ts gB:List AV} {o:Oper} (h:vL E ts gB o.op) (hp:ah) (rc:RC):bF E call ts hp rc o=bF E call gB hp rc o:=by
 obtain ⟨dst,op,ty,pos,after,guard⟩:=o
 simp only at h
 unfold bF
 cases op with
 | call c=>
   have hc:=ib (E:=E) (ts:=ts) (gB:=gB) (c:=c) h
   have vj:=oD (E:=E) (ts:=ts) (gB:=gB) (c:=c) h
   cases No:c.callee with
   | invoke r name=>
     have hr:b8 E ts r=b8 E gB r:=h r (by simp [Op.operands,Call.operands,No])
     simp only[No,hc,hr]
   | builtin b=>cases b<;>simp only[No,hc]
   | value f=>simp only[No,vj]
 | defer c=>simp only[oD (E:=E) (ts:=ts) (gB:=gB) (c:=c) h]
 | store t a x=>simp only[h a (by simp [Op.operands]),h x (by simp [Op.operands])]
 | mapUpdate t m k x=>simp only[h m (by simp [Op.operands]),h k (by simp [Op.operands]),h x (by simp [Op.operands])]
 | insert t m k x=>simp only[h m (by simp [Op.operands]),h k (by simp [Op.operands]),h x (by simp [Op.operands])]
 | convert s d x=>simp only[h x (by simp [Op.operands])]
 | next i s=>simp only[h i (by simp [Op.operands])]
 | panic x=>simp only[h x (by simp [Op.operands])]
 | _=>rfl
end Go.Ab
end
