/- Of what the proof is made: 4 texts, one behind the other. -/
import Derived.Test.YtllhielelnfpaaaGreatDoorM40
set_option maxRecDepth 100000
set_option linter.unusedSimpArgs false
set_option linter.unusedVariables false
set_option maxHeartbeats 6400000
namespace Go.Proofs.YtllhielelnfpaaaGreatDoor
open Go.Proofs.Tryz
open Go.RowKit Corb
variable {W w:World}
theorem gU{P:Program}{ops:Array Oper}{o:Oper}{a:Act}{K:Act->World->Prop}{Q:Exit->Act->World->Prop}{E:Prop}
  (p:o.guard=none) (s x:Operand) (t:TypeId) (f:o.op=Op.call { callee:=Callee.builtin Builtin.append,args:=#[s,x],argTypes:=#[t,t] })
  (base:Nat) (e:TypeId) (i:TypeInfo) (z:Value) (size bytes:Nat) (k:P.underlying t=some (.slice e)) (h2:P.info? e=some i) (G:i.zero=some z) (H:i.size=size) (I:i.bytes=bytes) (J:z.cells.size=size) (L:0<size)
  (v:Value) (n:Nat) (xs:List Value) (r:a.eval s=v) (b:w.ownsRow base e size v n xs)
  (vx:Value) (base' m:Nat) (news:List Value) (y:a.eval x=vx) (c:w.ownsRow base' e size vx m news) (j:∀u∈news,u.oneCell'=true)
  (A:n+m<=maxLen) (B:(n+m)*bytes<=140737488355328) (C:base<=w.heap.size)
  (l:∀v' w',w'.ownsRow base e size v' (n+m) (xs++news)->w.grownBy w' v.ownBlock->K (a.put o.dst v') w') :
  if Region.wanted o (yielded ops a.tmps)=true then Oper.wp P o a w K Q else E:=by
 have q:=c.1;rcases c.2 with⟨e0,F⟩|⟨g,cap,D,e0,R⟩
 .
  subst F;have d:news=[]:=a2h (by rw[q];simp);subst d;have M:Region.wanted o (yielded ops a.tmps)=true:=by simp[Region.wanted,p]
  rw[a0e M];have h:=run_append_owned_none (P:=P) (w:=w) base t o.type e i size k h2 v n xs b;unfold Oper.wp;simp[execOp,f,resolve,invoke,builtin,r,y.trans e0,h,Result.andThen];refine l v w ?_ (World.grownBy.same _ _);rw[a1a,a1v];exact b
 . subst e0;exact aH p s x t f base e i z size bytes k h2 G H I J L v n xs r b ⟨g,0,none⟩ m cap news y q (a1S c rfl) j A B C fun v' w' N O _=>l v' w' N O
theorem Iu(a b:ByteArray):cw a.data.toList b.data.toList=(a.toList == b.toList || (fw a.data.toList b.data.toList || fw b.data.toList a.data.toList)):=by
 unfold cw;rw[Lib.toList_data,Lib.toList_data,Bool.or_comm (fw b.data.toList _)]
theorem zv(a:Option Addr)(cap:Nat)(l:List En)(n:Nat)(y:l.length=n)(x:ByteArray)(w:World)(h:j5 w a l)(O:(n:Int)<=1048576)(G:(x.size:Int)<=1048576)
  (F:∀i,i<n->((l.getD i default).n.size:Int)<=1048576) :
  Calls prog 33 #[.slice a n cap,.string x] w fun e w'=>e = .returned (.bool (nH l x))/\w'=w:=by
 have K:=ae F;have J:=ae h;have z:=ae (fun k (v:k<l.length)=>@sD l x k v);have A:=ae (@pH l x);rw[y]at z A;have B:=ae y;clear h F y;go_enter func33,ntmps33;go_wp2_with fail
 go_loop [5] (fun i=>∃k:Nat,k<=n/\i = .int .i64 k/\(∀j,j<k->cw (l.getD j default).n.data.toList x.data.toList=false)) (fun i=>n-(intOf i).toNat)
 case atStart=>exact⟨0,a0g _,rfl,fun j E=>absurd E (by omega)⟩
 case round=>
  obtain⟨k,v,rfl,f⟩:=hrel;have c:=ae f;clear f;by_cases d:k<n
  .
   have M:(k:Int)<n:=by omega
   obtain⟨g,o,rfl,N,D⟩:=ab J (by have:=ab B;omega);have c0:=(D k (by have:=ab B;omega)).1;have s:=ae d;have b:=ae (ab z k d);have r:=ab K k d;have H:=ae (fun W=>lY (l.getD k default).n x W r G);have I:=ae (fun W=>lY x (l.getD k default).n W G r);have q:Hid (cw (l.getD k default).n.data.toList x.data.toList=false->∀j,j<k+1->cw (l.getD j default).n.data.toList x.data.toList=false):=by
    intro e j E;by_cases u:j=k
    . rw[u];exact e
    . exact ab c j (by omega)
   rw[Iu]at b q;clear D v c d r;generalize (l.getD k default).n=p at *
   generalize fw p.data.toList x.data.toList=u1 at *
   generalize fw x.data.toList p.data.toList=u2 at *
   cases C:(p.toList == x.toList)
   .
    rw[C]at b q;go_wp2_with fail;refine(ab H _).mono ?_;rintro e w1 ⟨rfl,t⟩;rw[t];clear t;cases u1
    .
     go_wp2_with fail;refine(ab I _).mono ?_;rintro e w2 ⟨rfl,t⟩;rw[t];clear t;cases u2
     .
      have L:=ae (ab q rfl);go_wp2
      go_round
      case rel=>exact⟨k+1,by have:=ab s;omega,by go_num,ab L⟩
      case measure=>have:=ab s;simp[intOf];omega
     . have m:=ae (ab b rfl);go_wp2;go_ret;exact⟨by rw[ab m];rfl,rfl⟩
    . have m:=ae (ab b rfl);go_wp2;go_ret;exact⟨by rw[ab m];rfl,rfl⟩
   . rw[C]at b;have m:=ae (ab b rfl);go_wp2;go_ret;exact⟨by rw[ab m];rfl,rfl⟩
  .
   obtain rfl:k=n:=by omega
   have m:=ae (ab A (ab c));go_wp2;go_ret;exact⟨by rw[ab m];rfl,rfl⟩
structure ESt (w:World) (e:En) (W:World):Prop where
 below:Below w.heap.size w W
 lt:w.heap.size<W.heap.size
 blk:Blk W w.heap.size [.string e.n,.int .i64 e.y,.int .i64 e.mo,.int .i64 e.d,.int .i64 e.h,.int .i64 e.mi,.int .i64 e.s,.string e.t]
theorem ESt.all{e:En}(h:ESt w e W):∀i,i<8->W.cell? ⟨w.heap.size,i,none⟩=[.string e.n,.int .i64 e.y,.int .i64 e.mo,.int .i64 e.d,.int .i64 e.h,.int .i64 e.mi,.int .i64 e.s,.string e.t][i]?:=h.blk.cells rfl
theorem ESt.drew{e:En}(h:ESt w e W):ESt w e W.drew:=⟨h.1.drew,h.2,h.3.drew⟩
theorem ESt.alloc{e:En}(h:ESt w e W)(o:Obj):ESt w e (W.alloc o):=by
 have hb:Below W.heap.size W (W.alloc o):=(a0c _ _).alloc (a0a _) _;exact⟨h.1.alloc (a0z h.2) o,a0m h.2 hb.size,h.3.later hb h.2⟩
theorem ESt.grown{W':World}{e:En}{v:Value}{n:Nat}{xs:List Value}(h:ESt w e W)(b:W.ownsRow (w.heap.size+1) 31 8 v n xs)(a:W.grownBy W' v.ownBlock):ESt w e W':=
 ⟨h.1.grown a (a0z h.2) (fun k e=>by have:=(a0w b k e).1;omega),a0m h.2 a.size,h.3.grown a (fun e=>by have:=(a0w b _ e.symm).1;omega)⟩
theorem sG{g:Nat}{vs:List Value}(h:Blk W g vs):∀j u,vs[j]?=some u->W.cell? ((⟨g,0,none⟩:Addr).add j)=some u:=fun j u a=>by
 have e:(⟨g,0,none⟩:Addr).add j=⟨g,j,none⟩:=by unfold Addr.add;split<;>simp_all
 rw[e];exact h.cell j u a
theorem wz{b n:Nat}{v:Value}{l:List En}{e:En}(a:l.length=n)(h:W.ownsRow (b+1) 31 8 v (0+n+1) ([]++l.flatMap kg++kg e)):gz W b v (l++[e]):=
 cf.mono (cf.snoc a (by rw[a0G,a1t]at h;exact h)) (a00 _)
theorem FO(v:Value)(l:List En)(e:En)(ob:Nat)(w:World)(h:gz w ob v l)(Q:l.length<=6)(hs:∀i,i<l.length->((l.getD i default).n.size:Int)<=1048576)(he:e.n.size<=1048576)(ht:(e.t.size:Int)<=9223372036854775807) :
  Calls prog 21 #[v,.agg #[.string e.n,.int .i64 e.y,.int .i64 e.mo,.int .i64 e.d,.int .i64 e.h,.int .i64 e.mi,.int .i64 e.s,.string e.t]] w fun f w'=>(∃v',f = .returned (.tuple #[v',.int .i64 (bj l e)])/\(bj l e=0->gz w' w.heap.size v' (l++[e]))/\(bj l e≠0->v'=v))/\Below w.heap.size w w':=by
 have Z:prog.follows .mixedOrders=true:=by kernel_rfl
 obtain⟨i0,V,D,E,F⟩:=a0p Tryz.infoEnt;obtain⟨n,hn⟩:∃n,l.length=n:=⟨_,rfl⟩;obtain⟨a,c,rfl,hc,_⟩:=h.formN hn;rw[hn]at Q hs;have al:(n:Int)<=6:=by omega
 have p:Hid (0+n<=maxLen/\(0+n)*80<=140737488355328/\0+n+1<=maxLen/\(0+n+1)*80<=140737488355328):=by show _/\_;unfold maxLen;omega
 have J:Hid (ESt w e (w.alloc (.cells #[.string e.n,.int .i64 e.y,.int .i64 e.mo,.int .i64 e.d,.int .i64 e.h,.int .i64 e.mi,.int .i64 e.s,.string e.t] 31))):=⟨(a0c _ _).alloc (a0a _) _,by simp,aL w _ _⟩;have CE:=ae (iI e.n e.y e.mo e.d e.h e.mi e.s e.t (w.alloc (.cells #[.string e.n,.int .i64 e.y,.int .i64 e.mo,.int .i64 e.d,.int .i64 e.h,.int .i64 e.mi,.int .i64 e.s,.string e.t] 31)) he ht);have CC:=ae (fun W (hb:Below w.heap.size w W)=>zv a c l n hn e.n W (io hn (h.later hb (a0a _))) (by omega) (by omega) hs);have T:=ae hn;have HO:=ae h;clear h hs he ht hn hc Q;go_enter func21,ntmps21;go_wp2_with fail;refine(ab CE).mono ?_;rintro f x1 ⟨rfl,P⟩;have N:Hid (ESt w e x1):=⟨ai (ab J).1 P,a0m (ab J).2 P.size,(ab J).3.later P (ab J).2⟩;clear CE P J;have X:=ae (ab N).1;cases U:jf e
 .
  have B:Hid (bj l e=1):=by show _=_;unfold bj;rw[a0d (by rw[U];decide)]
  rw[show gF e.n e.y e.mo e.d e.h e.mi e.s e.t=false from U];clear U;go_wp2
  go_ret2
  exact⟨⟨_,by rw[ab B];rfl,fun h=>(by rw[ab B]at h;cases h),fun _=>rfl⟩,ab X⟩
 .
  have G:Hid (bj l e=if nH l e.n then 3 else if 6<=n then 4 else 0):=by show _=_;unfold bj;rw[a0e U,ab T]
  rw[show gF e.n e.y e.mo e.d e.h e.mi e.s e.t=true from U];clear U;have pA:=(ab N).all;go_wp2_with fail;refine(ab CC _ (ab X)).mono ?_;rintro f x2 ⟨rfl,aa⟩;rw[aa];clear CC pA aa x2;cases hA:nH l e.n
  .
   rw[hA]at G;clear hA;by_cases Q:6<=n
   .
    have B:Hid (bj l e=4):=by show _=_;rw[ab G,a0d (by decide),a0e Q]
    have ac:(6:Int)<=n:=by omega
    go_wp2
    go_ret2
    exact⟨⟨_,by rw[ab B];rfl,fun h=>(by rw[ab B]at h;cases h),fun _=>rfl⟩,ab X⟩
   .
    have B:Hid (bj l e=0):=by show _=_;rw[ab G,a0d (by decide),a0d Q]
    have ac:¬ (6:Int)<=n:=by omega
    clear G Q X;go_wp2_with fail;refine wp_region_held_drew (S:=fun W=>∀i,i<8->W.cell? ⟨w.heap.size,i,none⟩=[.string e.n,.int .i64 e.y,.int .i64 e.mo,.int .i64 e.d,.int .i64 e.h,.int .i64 e.mi,.int .i64 e.s,.string e.t][i]?) Z ((ab N).drew.all) (fun hS=>?_);refine af 1 (.slice a n c) rfl (by kernel_rfl) (fun _ _ _ h=>h) rfl (fun W ad=>by go_simp) hS ?_;refine af 3 (.agg #[.string e.n,.int .i64 e.y,.int .i64 e.mo,.int .i64 e.d,.int .i64 e.h,.int .i64 e.mi,.int .i64 e.s,.string e.t]) rfl (by kernel_rfl) (fun _ _ _ h=>h) rfl (fun W ad=>by go_simp) hS ?_;clear hS;have R:=ae (ab N).drew;generalize x1.drew=W1 at *
    refine wpAnyH_ready (rs:=[0,4]) (by kernel_rfl) (by simp) ?_;refine AllReadyH.cons rfl (fun K k=>?_) (AllReadyH.cons rfl (fun K k=>?_) (AllReadyH.nil))
    .
     go_simp;have r:=ae ((ab R).alloc (.cells #[] 31));have H:=ae (a0Y (base:=w.heap.size+1) (size:=8) (e:=31) W1 #[] 0 (ab R).2 (by unfold maxLen;omega) rfl);refine Shut.out k _ _ (ab r).all (fun _=>?_);clear k K;obtain⟨G0,hG0⟩:∃x,W1.heap.size=x:=⟨_,rfl⟩;obtain⟨W2,hW2⟩:∃x,W1.alloc (.cells #[] 31)=x:=⟨_,rfl⟩;rw[hG0,hW2]at H;rw[hW2]at r;rw[hG0,hW2];refine wpAnyH_ready (rs:=[2,4]) (by kernel_rfl) (by simp) ?_;refine AllReadyH.cons rfl (fun K k=>?_) (AllReadyH.cons rfl (fun K k=>?_) (AllReadyH.nil))
     .
      refine gU rfl (.tmp 22) (.tmp 23) 38 rfl (w.heap.size+1) 31 i0 (.agg #[.string ⟨#[]⟩,.int .i64 0,.int .i64 0,.int .i64 0,.int .i64 0,.int .i64 0,.int .i64 0,.string ⟨#[]⟩]) 8 80 a10 V D E F rfl (by decide) (Value.slice (some ⟨G0,0,none⟩) 0 0) 0 [] rfl (ab H) _ ob n (l.flatMap kg) rfl (cf.own (ab T) ((ab HO).later (ab r).1 (a0a _))) (pP _) (ab p).1 (ab p).2.1 (ab r).2 ?_;intro v3 W3 g b;have m:=ae ((ab r).grown (ab H) b);have u:=ae g;clear g b;refine Shut.out k _ _ (ab m).all (fun _=>?_);clear k K;refine ag 4 (by kernel_rfl) rfl fun K k=>?_;go_simp;have q:=ae ((ab m).alloc (.cells #[.string e.n,.int .i64 e.y,.int .i64 e.mo,.int .i64 e.d,.int .i64 e.h,.int .i64 e.mi,.int .i64 e.s,.string e.t] 31));have C:=ae (aL W3 #[.string e.n,.int .i64 e.y,.int .i64 e.mo,.int .i64 e.d,.int .i64 e.h,.int .i64 e.mi,.int .i64 e.s,.string e.t] 31);have z:=ae (a0j (ab u) (.cells #[.string e.n,.int .i64 e.y,.int .i64 e.mo,.int .i64 e.d,.int .i64 e.h,.int .i64 e.mi,.int .i64 e.s,.string e.t] 31));have M:∀j,v3.ownBlock=some j->j<W3.heap.size:=fun j hj=>(a0w (ab u) j hj).2;refine Shut.out k _ _ (ab q).all (fun _=>?_);clear k K;obtain⟨G1,hG1⟩:∃x,W3.heap.size=x:=⟨_,rfl⟩;obtain⟨W4,hW4⟩:∃x,W3.alloc (.cells #[.string e.n,.int .i64 e.y,.int .i64 e.mo,.int .i64 e.d,.int .i64 e.h,.int .i64 e.mi,.int .i64 e.s,.string e.t] 31)=x:=⟨_,rfl⟩;rw[hG1,hW4]at C;rw[hW4]at q z;rw[hG1]at M;rw[hG1,hW4];refine ag 5 (by kernel_rfl) rfl fun K k=>?_;refine aH rfl (.tmp 24) (.tmp 26) 38 rfl (w.heap.size+1) 31 i0 (.agg #[.string ⟨#[]⟩,.int .i64 0,.int .i64 0,.int .i64 0,.int .i64 0,.int .i64 0,.int .i64 0,.string ⟨#[]⟩]) 8 80 a10 V D E F rfl (by decide) v3 (0+n) ([]++l.flatMap kg) rfl (ab z) ⟨G1,0,none⟩ 1 1 (kg e) rfl rfl (sG (ab C)) (je _) (ab p).2.2.1 (ab p).2.2.2 (ab q).2 ?_;intro v8 W8 g b A;have o:=ae ((ab q).grown (ab z) b);have I:=ae g;clear g b A;refine Shut.out k _ _ (ab o).all (fun _=>?_);clear k K;refine ag 6 (by kernel_rfl) rfl fun K k=>?_;go_simp;refine Shut.out k _ _ (ab o).all (fun _=>?_);clear k K;refine ag 7 (by kernel_rfl) rfl fun K k=>?_;go_simp;refine Shut.out k _ _ (ab o).all (fun _=>?_);clear k K;refine wpAnyH_done (by kernel_rfl) ?_ _;go_wp2
      go_ret2
      exact⟨⟨_,by rw[ab B];rfl,fun _=>wz (ab T) (ab I),fun h=>absurd (ab B) h⟩,(ab o).1⟩
     .
      go_simp;have m:=ae ((ab r).alloc (.cells #[.string e.n,.int .i64 e.y,.int .i64 e.mo,.int .i64 e.d,.int .i64 e.h,.int .i64 e.mi,.int .i64 e.s,.string e.t] 31));have L:=ae (aL W2 #[.string e.n,.int .i64 e.y,.int .i64 e.mo,.int .i64 e.d,.int .i64 e.h,.int .i64 e.mi,.int .i64 e.s,.string e.t] 31);have u:=ae (a0j (ab H) (.cells #[.string e.n,.int .i64 e.y,.int .i64 e.mo,.int .i64 e.d,.int .i64 e.h,.int .i64 e.mi,.int .i64 e.s,.string e.t] 31));have M:∀j,(Value.slice (some ⟨G0,0,none⟩) 0 0).ownBlock=some j->j<W2.heap.size:=fun j hj=>(a0w (ab H) j hj).2;refine Shut.out k _ _ (ab m).all (fun _=>?_);clear k K;obtain⟨G1,hG1⟩:∃x,W2.heap.size=x:=⟨_,rfl⟩;obtain⟨W3,hW3⟩:∃x,W2.alloc (.cells #[.string e.n,.int .i64 e.y,.int .i64 e.mo,.int .i64 e.d,.int .i64 e.h,.int .i64 e.mi,.int .i64 e.s,.string e.t] 31)=x:=⟨_,rfl⟩;rw[hG1,hW3]at L;rw[hW3]at m u;rw[hG1]at M;rw[hG1,hW3];refine ag 2 (by kernel_rfl) rfl fun K k=>?_;have Y:G0<G1:=M G0 rfl;refine gU rfl (.tmp 22) (.tmp 23) 38 rfl (w.heap.size+1) 31 i0 (.agg #[.string ⟨#[]⟩,.int .i64 0,.int .i64 0,.int .i64 0,.int .i64 0,.int .i64 0,.int .i64 0,.string ⟨#[]⟩]) 8 80 a10 V D E F rfl (by decide) (Value.slice (some ⟨G0,0,none⟩) 0 0) 0 [] rfl (ab u) _ ob n (l.flatMap kg) rfl (cf.own (ab T) ((ab HO).later (ab m).1 (a0a _))) (pP _) (ab p).1 (ab p).2.1 (ab m).2 ?_;intro v4 W4 g b;have q:=ae ((ab m).grown (ab u) b);have z:=ae g;have C:=ae ((ab L).grown b (fun e=>by have Q:G1=G0:=a1l e;omega));clear g b;refine Shut.out k _ _ (ab q).all (fun _=>?_);clear k K;refine ag 5 (by kernel_rfl) rfl fun K k=>?_;refine aH rfl (.tmp 24) (.tmp 26) 38 rfl (w.heap.size+1) 31 i0 (.agg #[.string ⟨#[]⟩,.int .i64 0,.int .i64 0,.int .i64 0,.int .i64 0,.int .i64 0,.int .i64 0,.string ⟨#[]⟩]) 8 80 a10 V D E F rfl (by decide) v4 (0+n) ([]++l.flatMap kg) rfl (ab z) ⟨G1,0,none⟩ 1 1 (kg e) rfl rfl (sG (ab C)) (je _) (ab p).2.2.1 (ab p).2.2.2 (ab q).2 ?_;intro v8 W8 g b A;have o:=ae ((ab q).grown (ab z) b);have I:=ae g;clear g b A;refine Shut.out k _ _ (ab o).all (fun _=>?_);clear k K;refine ag 6 (by kernel_rfl) rfl fun K k=>?_;go_simp;refine Shut.out k _ _ (ab o).all (fun _=>?_);clear k K;refine ag 7 (by kernel_rfl) rfl fun K k=>?_;go_simp;refine Shut.out k _ _ (ab o).all (fun _=>?_);clear k K;refine wpAnyH_done (by kernel_rfl) ?_ _;go_wp2
      go_ret2
      exact⟨⟨_,by rw[ab B];rfl,fun _=>wz (ab T) (ab I),fun h=>absurd (ab B) h⟩,(ab o).1⟩
    .
     go_simp;have r:=ae ((ab R).alloc (.cells #[.string e.n,.int .i64 e.y,.int .i64 e.mo,.int .i64 e.d,.int .i64 e.h,.int .i64 e.mi,.int .i64 e.s,.string e.t] 31));have O:=ae (aL W1 #[.string e.n,.int .i64 e.y,.int .i64 e.mo,.int .i64 e.d,.int .i64 e.h,.int .i64 e.mi,.int .i64 e.s,.string e.t] 31);refine Shut.out k _ _ (ab r).all (fun _=>?_);clear k K;obtain⟨G1,hG1⟩:∃x,W1.heap.size=x:=⟨_,rfl⟩;obtain⟨W2,hW2⟩:∃x,W1.alloc (.cells #[.string e.n,.int .i64 e.y,.int .i64 e.mo,.int .i64 e.d,.int .i64 e.h,.int .i64 e.mi,.int .i64 e.s,.string e.t] 31)=x:=⟨_,rfl⟩;rw[hG1,hW2]at O;rw[hW2]at r;rw[hG1,hW2];refine ag 0 (by kernel_rfl) rfl fun K k=>?_;go_simp;have m:=ae ((ab r).alloc (.cells #[] 31));have u:=ae (a0Y (base:=w.heap.size+1) (size:=8) (e:=31) W2 #[] 0 (ab r).2 (by unfold maxLen;omega) rfl);have L:=ae ((ab O).later ((a0c _ _).alloc (a0a _) (.cells #[] 31)) (ab O).1);have M:=(ab O).1;refine Shut.out k _ _ (ab m).all (fun _=>?_);clear k K;obtain⟨G0,hG0⟩:∃x,W2.heap.size=x:=⟨_,rfl⟩;obtain⟨W3,hW3⟩:∃x,W2.alloc (.cells #[] 31)=x:=⟨_,rfl⟩;rw[hG0,hW3]at u;rw[hW3]at m L;rw[hG0,hW3];refine ag 2 (by kernel_rfl) rfl fun K k=>?_;have Y:G1<G0:=by omega
     refine gU rfl (.tmp 22) (.tmp 23) 38 rfl (w.heap.size+1) 31 i0 (.agg #[.string ⟨#[]⟩,.int .i64 0,.int .i64 0,.int .i64 0,.int .i64 0,.int .i64 0,.int .i64 0,.string ⟨#[]⟩]) 8 80 a10 V D E F rfl (by decide) (Value.slice (some ⟨G0,0,none⟩) 0 0) 0 [] rfl (ab u) _ ob n (l.flatMap kg) rfl (cf.own (ab T) ((ab HO).later (ab m).1 (a0a _))) (pP _) (ab p).1 (ab p).2.1 (ab m).2 ?_;intro v4 W4 g b;have q:=ae ((ab m).grown (ab u) b);have z:=ae g;have C:=ae ((ab L).grown b (fun e=>by have Q:G1=G0:=a1l e;omega));clear g b;refine Shut.out k _ _ (ab q).all (fun _=>?_);clear k K;refine ag 5 (by kernel_rfl) rfl fun K k=>?_;refine aH rfl (.tmp 24) (.tmp 26) 38 rfl (w.heap.size+1) 31 i0 (.agg #[.string ⟨#[]⟩,.int .i64 0,.int .i64 0,.int .i64 0,.int .i64 0,.int .i64 0,.int .i64 0,.string ⟨#[]⟩]) 8 80 a10 V D E F rfl (by decide) v4 (0+n) ([]++l.flatMap kg) rfl (ab z) ⟨G1,0,none⟩ 1 1 (kg e) rfl rfl (sG (ab C)) (je _) (ab p).2.2.1 (ab p).2.2.2 (ab q).2 ?_;intro v8 W8 g b A;have o:=ae ((ab q).grown (ab z) b);have I:=ae g;clear g b A;refine Shut.out k _ _ (ab o).all (fun _=>?_);clear k K;refine ag 6 (by kernel_rfl) rfl fun K k=>?_;go_simp;refine Shut.out k _ _ (ab o).all (fun _=>?_);clear k K;refine ag 7 (by kernel_rfl) rfl fun K k=>?_;go_simp;refine Shut.out k _ _ (ab o).all (fun _=>?_);clear k K;refine wpAnyH_done (by kernel_rfl) ?_ _;go_wp2
     go_ret2
     exact⟨⟨_,by rw[ab B];rfl,fun _=>wz (ab T) (ab I),fun h=>absurd (ab B) h⟩,(ab o).1⟩
  .
   have B:Hid (bj l e=3):=by show _=_;rw[ab G,hA,a0e rfl]
   clear hA;go_wp2
   go_ret2
   exact⟨⟨_,by rw[ab B];rfl,fun h=>(by rw[ab B]at h;cases h),fun _=>rfl⟩,ab X⟩
theorem ye{M l:List En}{k:Nat}(a:k<M.length):iD (M.drop k) l=if bj l (M.getD k default)=0 then iD (M.drop (k+1)) (l++[M.getD k default])else(bj l (M.getD k default),[]):=by
 have e:M.drop k=M.getD k default :: M.drop (k+1):=by
  rw[a2U a];simp[List.getD,a]
 rw[e];rfl
theorem xZ(M:List En)(a:Option Addr)(c N:Nat)(hN:M.length=N)(v:Value)(l:List En)(bx b:Nat)(m:Int)(w:World)(h:gz w b v l)(hz:dm l=true)(hb:b<=w.heap.size)(hx:w.cell? ⟨bx,0,none⟩=some (.slice a N c))
  (hM:∀W,Below b w W->j5 W a M) (hs:∀i,i<N->(M.getD i default).n.size<=1048576/\((M.getD i default).t.size:Int)<=9223372036854775807) (ac:N<=6) (hm:∀W,Below b w W->W.cell? ⟨2,0,none⟩=some (.int .i64 m)) :
  Calls prog 48 #[v,.pointer (some ⟨bx,0,none⟩)] w (Hg b w (iD M l)):=by
 obtain⟨i0,hi,ad,al,an⟩:=a0p Tryz.infoEnt;have a0:(N:Int)<=6:=by omega
 have V:=ae hN;have HS:=ae hs;have HM:=ae hM;have CM:=ae hm;have Y:=ae (a0b h (a0b hz hb));obtain⟨n0,hn0⟩:∃n,l.length=n:=⟨_,rfl⟩;obtain⟨fa,fc,rfl,_,_⟩:=h.formN hn0;clear h hz hb hN hs hM hm ac hn0;go_enter func48,ntmps48;go_wp2_with fail
 go_loopw [0,6,7,10] (fun f _ _ i wr=>∃(k:Nat) (L:List En),k<=N/\i = .int .i64 k/\gz wr b f L/\dm L=true/\iD (M.drop k) L=iD M l/\Below b w wr) (fun _ _ _ i _=>N-(intOf i).toNat)
 case atStart=>exact⟨0,l,a0g _,rfl,(ab Y).1,(ab Y).2.1,rfl,a0c _ _⟩
 case round=>
  obtain⟨k,L,hk,rfl,ho,H,z,e⟩:=hrel;have S:=(ab Y).2.2;have HO:=ae ho;have HZ:=ae H;have I:=ae z;have HB:=ae e;have E:Hid (b<=wr.heap.size):=a0C S e.size;obtain⟨n,hn⟩:∃n,L.length=n:=⟨_,rfl⟩;obtain⟨fa,fc,rfl,_,_⟩:=ho.formN hn;have h6:=(ii H).2;have a2:n<=6:=by omega
  have Hn:=ae hn;clear ho H z S h6;by_cases G:k<N
  .
   have a1:(k:Int)<N:=by omega
   obtain⟨g,o,rfl,hg,hc⟩:=(ab HM) wr e (by have:=ab V;omega);obtain⟨c0,c1,c2,c3,c4,c5,c6,c7⟩:=hc k (by have:=ab V;omega);have K:=ae G;have P:=ae (ab HS k G);have x:Hid (iD (M.drop k) L=_):=ye (by have:=ab V;omega);clear hc hk G e;generalize M.getD k default=en at *
   have hA:=(a0c wr.heap.size wr).alloc (a0a _) (.cells #[.string en.n,.int .i64 en.y,.int .i64 en.mo,.int .i64 en.d,.int .i64 en.h,.int .i64 en.mi,.int .i64 en.s,.string en.t] 31);have C:=ae ((ab HB).trans (hA.mono (ab E)));have D:=ae ((ab HO).later hA (a0a _));have P1:=ae (aL wr #[.string en.n,.int .i64 en.y,.int .i64 en.mo,.int .i64 en.d,.int .i64 en.h,.int .i64 en.mi,.int .i64 en.s,.string en.t] 31);have CR:=ae (mC fa fc L n hn en m _ (io hn (ab D)) (by omega) (fun i hi=>by have:=(kJ (ab HZ) i (by omega)).1;omega) (ab P).1 (ab P).2 (ab CM _ (ab C)));clear hA;go_wp2_with fail;refine(ab CR).mono ?_;rintro f x1 ⟨rfl,p⟩;have J:=ae ((ab C).trans (p.mono (a0C (ab E) (by simp))));have Z:=ae ((ab D).later p (a0a _));have P2:=ae ((ab P1).later p (ab P1).1);have Q:Hid (b<=x1.heap.size):=a0C (ab E) (a0C (by simp) p.size);clear p CR c0 c1 c2 c3 c4 c5 c6 c7 C D P1 hn;by_cases j:bj L en=0
   .
    rw[show dC (bj L en) = .nilIface by rw[j];rfl];have O:Hid (dm (L++[en])=true/\iD (M.drop (k+1)) (L++[en])=iD M l):=by
     refine⟨(kH (ab HZ) _).2 j,?_⟩;rw[<-ab I,ab x,a0e j]
    have A:Hid (n+1<=maxLen/\(n+1)*80<=140737488355328):=by show _/\_;unfold maxLen;omega
    have F:=cf.own (ab Hn) (ab Z);have r:=ab Q;have pA:=(ab P2).cells (n:=8) rfl;clear j x I;go_wp2_with (at_builtin;refine a0r _ rfl _ _ 38 rfl b 31 i0 (.agg #[.string ⟨#[]⟩,.int .i64 0,.int .i64 0,.int .i64 0,.int .i64 0,.int .i64 0,.int .i64 0,.string ⟨#[]⟩]) 8 80 a10 hi ad al an rfl (by decide) _ _ _ rfl (a0j F _) ⟨x1.heap.size,0,none⟩ 1 1 (kg en) rfl rfl (i6 x1 _ _) (je _) (ab A).1 (ab A).2 (ao r _) ?_;intro v5 x5 B u T;clear T;have R:=aC (v:=.slice fa n fc) u F (a0a _) r (ab J));have aa:Hid (gz x5 b v5 (L++[en])):=cf.snoc (ab Hn) B;have X:=ae R;clear B u R F r pA;go_wp2;go_roundw
    case rel=>exact⟨k+1,_,by have:=ab K;omega,by go_num,ab aa,(ab O).1,(ab O).2,ab X⟩
    case measure=>have:=ab K;simp[intOf];omega
   .
    rw[show dC (bj L en) = .iface 81 (.agg #[.int .i64 (bj L en)]) by unfold dC;rw[a0d j]];have U:Hid ((iD M l).1=bj L en):=by show _=_;rw[<-ab I,ab x,a0d j]
    have HC:=ae j;clear j x I;generalize bj L en=q at *
    go_wp2
    go_ret2
    exact Ln (ab U) (ab HC) (ab J)
  .
   obtain rfl:k=N:=by omega
   have U:Hid (iD M l=(0,L)):=by show _=_;rw[<-ab I,a2H (by rw[ab V];exact a0a _)];rfl
   clear e;go_wp2
   go_ret2
   refine⟨⟨.slice fa n fc,?_,⟨_,_,_,rfl⟩,fun _=>?_⟩,ab HB⟩
   . rw[ab U];rfl
   . rw[ab U];exact ab HO
theorem yR(a:Option Addr)(n c:Nat)(w:World) :
  Calls prog 25 #[.slice a n c] w fun f w'=>f = .returned (.func (.func 48) #[] #[.pointer (some ⟨w.heap.size,0,none⟩)])/\w'=w.alloc (.cells #[.slice a n c] 38):=by
 go_enter func25,ntmps25;go_wp2;go_ret;exact⟨rfl,rfl⟩
theorem yb(s:ByteArray)(d:List En->Int×List En)(bx:Nat)(m:Int)(w:World)(R:s.size<=1048576)(I:w.cell? ⟨2,0,none⟩=some (.int .i64 m))(M:oB w)(L:dI w)
  (hd:∀l,dm l=true->(d l).1=0->dm (d l).2=true)
  (X:∀W v l,dE s=some l->Below w.heap.size w W->gz W w.heap.size v l->Calls prog 48 #[v,.pointer (some ⟨bx,0,none⟩)] W (Hg w.heap.size W (d l))) :
  Calls prog 24 #[.string s,.func (.func 48) #[] #[.pointer (some ⟨bx,0,none⟩)]] w fun f w'=>f = .returned (edR s d)/\Below w.heap.size w w':=by
 have C:=ae (lX s m w R I M L);have Z:=ae I;have P:=ae (World.block_lt_of_cell? _ _ I);have Y:=ae (fun W (hb:Below w.heap.size w W)=>(hb.cell (p:=⟨2,0,none⟩) (ab P)).trans (ab Z));have V:=ae (fun W (hb:Below w.heap.size w W)=>M.later hb);have J:=ae (fun W (hb:Below w.heap.size w W)=>L.later hb);have U:=ae X;have Hd:=ae hd;have HS:=ae R;clear R I M L hd X;go_enter func24,ntmps24;go_wp2_with fail;refine(ab C).mono ?_;rintro f x1 ⟨⟨v,rfl,b⟩,h⟩;have B:=ae h;clear C;rcases z:dE s with _|l
 .
  have D:=ae (D5 z d);clear z b h;go_wp2
  go_ret2
  exact⟨by rw[ab D];rfl,ab B⟩
 .
  rw[z]at b;have CD:=ae (ab U x1 v l z h b);have K:=ae z;clear z b h U;go_wp2_with fail;refine(ab CD).mono ?_;rintro f x2 ⟨⟨v2,rfl,⟨a,n,c,rfl⟩,G⟩,E⟩;have o:=ae ((ab B).trans E);have A:=ae (mB (d l).1 x2 (ab V _ (ab o)));have H:=ae G;clear E G CD;obtain⟨q,hq⟩:∃q,d l=q:=⟨_,rfl⟩;have Hq:=ae hq;rw[hq]at A H;rw[hq];clear hq;obtain⟨k,r⟩:=q;simp only at A H;simp only;obtain⟨FV,hFV⟩:∃x,dC k=x:=⟨_,rfl⟩;rw[hFV]at A;rw[hFV];clear hFV;go_wp2_with fail;refine(ab A).mono ?_;rintro f x3 ⟨rfl,u⟩;have e:=ae (ai (ab o) u);have j:=ae u;clear u A;by_cases O:k=0
  .
   subst O;have y:dm r=true:=by have:=ab Hd l (pF (ab K)) (by rw[ab Hq]);rw[ab Hq]at this;exact this
   have Q:gz x2 w.heap.size (.slice a n c) r:=ab H rfl;obtain⟨N,hN⟩:∃n,r.length=n:=⟨_,rfl⟩;obtain⟨a',c',e',aa,_⟩:=Q.formN hN;cases e'
   have F:=Q.later (ab j) (a0a _);have h6:=(ii y).2;have T:=ae (tk a c r n hN m x3 (io hN F) (by omega) (by omega) (fun i hi=>kJ y i (by omega)) (ab Y _ (ab e)) (ab V _ (ab e)) (ab J _ (ab e)));have D:=ae (IE (ab K) (ab Hq));clear y Q F h6 H j o;go_wp2_with fail;refine(ab T).mono ?_;rintro f x4 ⟨rfl,g⟩;have t:=ae (ai (ab e) g);clear g T;go_wp2
   go_ret2
   exact⟨by rw[ab D];rfl,ab t⟩
  .
   have D:=ae (MG (ab K) (ab Hq) O);have S:=ae (fun W=>oq s W (by have:=ab HS;omega));have hd:decide (k=0)=false:=a0h O;go_wp2_with fail;refine(ab S _).mono ?_;rintro f x4 ⟨rfl,g⟩;have t:=ae (ai (ab e) g);clear g S;go_wp2
   go_ret2
   exact⟨by rw[ab D];rfl,ab t⟩
theorem uO(s:ByteArray)(M:List En)(a:Option Addr)(c N:Nat)(o:M.length=N)(bx:Nat)(m:Int)(w:World)(y:s.size<=1048576)(g:w.cell? ⟨bx,0,none⟩=some (.slice a N c))(k:j5 w a M)
  (r:∀i,i<N->(M.getD i default).n.size<=1048576/\((M.getD i default).t.size:Int)<=9223372036854775807) (d:N<=6) (e:w.cell? ⟨2,0,none⟩=some (.int .i64 m)) (u:oB w) (q:dI w) :
  Calls prog 24 #[.string s,.func (.func 48) #[] #[.pointer (some ⟨bx,0,none⟩)]] w fun f w'=>f = .returned (edR s (iD M))/\Below w.heap.size w w':=
 yb s (iD M) bx m w y e u q (fun _ h j=>MO h j)
  (fun W v l z hb x=>xZ M a c N o v l bx w.heap.size m W x (pF z) hb.size ((hb.cell (p:=⟨bx,0,none⟩) (World.block_lt_of_cell? _ _ g)).trans g)
   (fun _ b=>k.later (hb.trans b)) r d (fun _ b=>((hb.trans b).cell (p:=⟨2,0,none⟩) (World.block_lt_of_cell? _ _ e)).trans e))
def nv(a b:ByteArray):Value:=match dE b with
 | none=>.tuple #[.string ⟨#[]⟩,.int .i64 1]
 | some M=>edR a (iD M)
theorem qk{a b:ByteArray}(h:dE b=none):nv a b = .tuple #[.string ⟨#[]⟩,.int .i64 1]:=by unfold nv;rw[h]
theorem ql{a b:ByteArray}{M:List En}(h:dE b=some M):nv a b=edR a (iD M):=by unfold nv;rw[h]
theorem Fy(a b:ByteArray):∃t c,nv a b = .tuple #[.string t,.int .i64 c]:=by
 unfold nv
 split
 . exact⟨_,_,rfl⟩
 . exact D4 _ _
theorem rR(a b:ByteArray)(m:Int)(w:World)(D:a.size<=1048576)(hb:b.size<=1048576)(o:w.cell? ⟨2,0,none⟩=some (.int .i64 m))(A:oB w)(z:dI w) :
  Calls prog 19 #[.string a,.string b] w fun f w'=>f = .returned (nv a b)/\Below w.heap.size w w':=by
 have C:=ae (lX b m w hb o A z);have E:=ae (fun W (hb:Below w.heap.size w W)=>(hb.cell (p:=⟨2,0,none⟩) (World.block_lt_of_cell? _ _ o)).trans o);have G:=ae (fun W (hb:Below w.heap.size w W)=>A.later hb);have u:=ae (fun W (hb:Below w.heap.size w W)=>z.later hb);clear hb o A z;go_enter func19,ntmps19;go_wp2_with fail;refine(ab C).mono ?_;rintro f x1 ⟨⟨v,rfl,d⟩,g⟩;have q:=ae g;clear C;rcases j:dE b with _|M
 .
  have s:=ae (qk (a:=a) j);clear j d g;go_wp2
  go_ret2
  exact⟨by rw[ab s];rfl,ab q⟩
 .
  rw[j]at d;have d:gz x1 w.heap.size v M:=d;obtain⟨n,hn⟩:∃n,M.length=n:=⟨_,rfl⟩;obtain⟨aa,c,rfl,_,_⟩:=d.formN hn;have s:=ae (ql (a:=a) j);have h:=pF j;have x:=(a0c x1.heap.size x1).alloc (a0a _) (.cells #[.slice aa n c] 38);have e:=ae (ai g x);have CD:=ae (uO a M aa c n hn x1.heap.size m _ D ((aL x1 #[.slice aa n c] 38).cell 0 _ rfl) ((io hn d).later x) (fun i H=>kJ h i (by omega)) (by have:=(ii h).2;omega) (ab E _ (ab e)) (ab G _ (ab e)) (ab u _ (ab e)));clear j d g x h hn D;go_wp2_with fail;refine(yR _ _ _ _).mono ?_;rintro f x2 ⟨rfl,B⟩;subst B;go_wp2_with fail;refine(ab CD).mono ?_;rintro f x3 ⟨rfl,l⟩;have r:=ae (ai (ab e) l);clear l CD e;obtain⟨t,k,y⟩:=D4 a (iD M);have F:=ae y;rw[y];clear y;go_wp2
  go_ret2
  exact⟨by rw[ab s,ab F];rfl,ab r⟩
theorem rY(a b:ByteArray)(w:World)(ha:a.size<=1048576)(hb:b.size<=1048576) :
  Calls prog 18 #[.string a,.string b] w fun f w'=>f = .returned (nv a b)/\Below w.heap.size w w':=by
 have Z:=ae (mu a w ha);have C2:=ae (fun W=>mu b W hb);clear ha hb;go_enter func18,ntmps18;go_wp2_with fail;refine(ab Z).mono ?_;rintro f x1 ⟨⟨v,rfl,c⟩,R⟩;have K:=ae R;have Q:=ae c;clear Z R c;go_wp2_with fail;refine(ab C2 _).mono ?_;rintro f x2 ⟨⟨u,rfl,c⟩,H⟩;have A:=ae (ai (ab K) H);have s:=ae ((ab Q).later H (a0a _));clear C2 H Q K;rcases p:dE a with _|l
 .
  have C:Hid (nv a b = .tuple #[.string ⟨#[]⟩,.int .i64 1]):=by
   show _=_;rcases d:dE b with _|M
   . exact qk d
   . rw[ql d,D5 p]
  clear p s c;go_wp2
  go_ret2
  exact⟨by rw[ab C];rfl,ab A⟩
 .
  rcases d:dE b with _|M
  .
   have C:=ae (qk (a:=a) d);clear p d s c;go_wp2
   go_ret2
   exact⟨by rw[ab C];rfl,ab A⟩
  .
   have HJ:=ae (ql (a:=a) d);rw[d]at c;rw[p]at s;have Y:gz x2 _ u M:=c;have G:=pF d;have D:=ae (kJ G);have F:=ae p;obtain⟨N,hN⟩:∃n,M.length=n:=⟨_,rfl⟩;rw[hN]at D;have aa:(N:Int)<=6:=by have:=(ii G).2;omega
   obtain⟨ma,mc,rfl,_,_⟩:=Y.formN hN;have HM:=ae (fun W (hb:Below x2.heap.size x2 W)=>(io hN Y).later hb);have T:=ae hN;clear p d c Y G hN;go_wp2_with fail
   go_loopw [6,10,11,12] (fun o i _ _ wr=>∃(k:Nat) (L:List En),k<=N/\i = .int .i64 k/\gz wr w.heap.size o L/\dm L=true/\iD (M.drop k) L=iD M l/\Below x2.heap.size x2 wr) (fun _ i _ _ _=>N-(intOf i).toNat)
   case atStart=>exact⟨0,l,a0g _,rfl,ab s,pF (ab F),rfl,a0c _ _⟩
   case round=>
    obtain⟨k,L,hk,rfl,I,h,z,e⟩:=hrel;have HO:=ae I;have HZ:=ae h;have J:=ae z;have HB:=ae e;have t:=ae (ai (ab A) e);clear z s;by_cases y:k<N
    .
     have ac:(k:Int)<N:=by omega
     obtain⟨g,o,rfl,hg,hc⟩:=(ab HM) wr e (by have:=ab T;omega);obtain⟨c0,c1,c2,c3,c4,c5,c6,c7⟩:=hc k (by have:=ab T;omega);have P:=ae y;have CL:=ae (FO _ L (M.getD k default) _ wr I (ii h).2 (fun i hi=>by have:=(kJ h i hi).1;omega) (ab D k y).1 (ab D k y).2);have x:Hid (iD (M.drop k) L=_):=ye (by have:=ab T;omega);obtain⟨fa,fc,hv,_,_⟩:=I.form;clear hc hk y e I h;generalize M.getD k default=en at *
     subst hv;go_wp2_with fail;refine(ab CL).mono ?_;rintro f y1 ⟨⟨v2,rfl,S,_⟩,m⟩;have B:=ae (ai (ab HB) m);have O:=ae (ai (ab t) m);have U:Hid (w.heap.size<=wr.heap.size):=(ab t).size;have V:=ae S;clear m S CL c0 c1 c2 c3 c4 c5 c6 c7 HB t;by_cases j:bj L en=0
     .
      have E:Hid (gz y1 w.heap.size v2 (L++[en])/\dm (L++[en])=true/\iD (M.drop (k+1)) (L++[en])=iD M l):=by
       refine⟨(ab V j).mono (ab U),(kH (ab HZ) _).2 j,?_⟩;rw[<-ab J,ab x,a0e j]
      rw[j];clear j x J V;go_wp2;go_roundw
      case rel=>exact⟨k+1,_,by have:=ab P;omega,by go_num,(ab E).1,(ab E).2.1,(ab E).2.2,ab B⟩
      case measure=>have:=ab P;simp[intOf];omega
     .
      have C:Hid (nv a b = .tuple #[.string a,.int .i64 (bj L en)]):=by
       show _=_;rw[ab HJ];exact MG (r:=[]) (ab F) (by rw[<-ab J,ab x,a0d j]) j
      clear x J V;generalize bj L en=q at *
      go_wp2
      go_ret2
      exact⟨by rw[ab C];rfl,ab O⟩
    .
     obtain rfl:k=N:=by omega
     have hd:iD M l=(0,L):=by rw[<-ab J,a2H (by rw[ab T];exact a0a _)];rfl
     obtain⟨n,hn⟩:∃n,L.length=n:=⟨_,rfl⟩;obtain⟨a2,c2,rfl,_,_⟩:=I.formN hn;have CP:=ae (FM a2 c2 n L wr hn (io hn I) (by have:=(ii h).2;omega) (fun i hi=>IM h (by omega)));have X:=ae (MD h hn);have C:=ae ((ab HJ).trans (IE (ab F) hd));clear hd h hn I e;go_wp2_with fail;refine(ab CP).mono ?_;rintro f y1 ⟨rfl,m⟩;have B:=ae (ai (ab t) m);rw[<-ab X];clear m CP;go_wp2
     go_ret2
     exact⟨by rw[ab C];rfl,ab B⟩
theorem sT(s x:ByteArray)(m:Int)(w:World)(q:s.size<=9223372036854775807)(_ht:x.size<=9223372036854775807)(i:w.cell? ⟨2,0,none⟩=some (.int .i64 m))(n:oB w)(l:dI w) :
  Ds 7 #[.string s,.string x] w (.bool true):=by
 by_cases o:(1048576:Int)<s.size
 . go_enter func7,ntmps7;go_wp2;go_ret;exact⟨rfl,a0c _ _⟩
 .
  by_cases h2:(1048576:Int)<x.size
  . go_enter func7,ntmps7;go_wp2;go_ret;exact⟨rfl,a0c _ _⟩
  . have k:=ae (rY s x w (by omega) (by omega));have j:=ae (fun W (hb:Below w.heap.size w W)=>rR s x m W (by omega) (by omega) ((hb.cell (p:=⟨2,0,none⟩) (World.block_lt_of_cell? _ _ i)).trans i) (n.later hb) (l.later hb));clear i n l;go_enter func7,ntmps7;go_wp2_with fail;refine(ab k).mono ?_;rintro e x1 ⟨rfl,b⟩;have f:=ae b;have a:=ae (ab j x1 b);clear b k j;obtain⟨T,c,h⟩:=Fy s x;rw[h]at a;rw[h];clear h;go_wp2_with fail;refine(ab a).mono ?_;rintro e x2 ⟨rfl,d⟩;have g:=ae (ai (ab f) d);clear d a;go_wp2;go_ret;exact⟨rfl,ab g⟩
end Go.Proofs.YtllhielelnfpaaaGreatDoor
