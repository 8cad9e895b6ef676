/- A file added to an archive: the model's l8Clash and l8Add. -/
import Derived.Test.YtkdlcomfpffhhaaGreatDoorM43
import Derived.Test.YtkdlcomfpffhhaaGreatDoorM41
import Derived.Test.YtkdlcomfpffhhaaGreatDoorM26
import Derived.Test.YtkdlcomfpffhhaaGreatDoorM2
import Derived.Deep.RegionHeld
import Derived.Laws.AppendOwnNone
set_option maxRecDepth 100000
set_option linter.unusedSimpArgs false
set_option linter.unusedVariables false
set_option maxHeartbeats 6400000
namespace Go.Proofs.YtkdlcomfpffhhaaGreatDoor
open Go.Proofs.Tryz
open Go.RowKit Corb
variable {W w:World}
theorem ge{P:Program}{ops:Array Oper}{o:Oper}{a:Act}{K:Act->World->Prop}{Q:Exit->Act->World->Prop}{E:Prop}
  (p:o.guard=none) (s x:Operand) (t:TypeId) (f:o.op=Op.call { callee:=Callee.builtin Builtin.append,args:=#[s,x],argTypes:=#[t,t] })
  (base:Nat) (e:TypeId) (i:TypeInfo) (z:Value) (size bytes:Nat) (k:P.underlying t=some (.slice e)) (h2:P.info? e=some i) (G:i.zero=some z) (H:i.size=size) (I:i.bytes=bytes) (J:z.cells.size=size) (L:0<size)
  (v:Value) (n:Nat) (xs:List Value) (r:a.eval s=v) (b:w.ownsRow base e size v n xs)
  (vx:Value) (base' m:Nat) (news:List Value) (y:a.eval x=vx) (c:w.ownsRow base' e size vx m news) (j:∀u∈news,u.oneCell'=true)
  (A:n+m<=maxLen) (B:(n+m)*bytes<=140737488355328) (C:base<=w.heap.size)
  (l:∀v' w',w'.ownsRow base e size v' (n+m) (xs++news)->w.grownBy w' v.ownBlock->K (a.put o.dst v') w') :
  if Region.wanted o (yielded ops a.tmps)=true then Oper.wp P o a w K Q else E:=by
 have q:=c.1;rcases c.2 with⟨e0,F⟩|⟨g,cap,D,e0,R⟩
 .
  subst F;have d:news=[]:=a1P (by rw[q];simp);subst d;have M:Region.wanted o (yielded ops a.tmps)=true:=by simp[Region.wanted,p]
  rw[a0e M];have h:=run_append_owned_none (P:=P) (w:=w) base t o.type e i size k h2 v n xs b;unfold Oper.wp;simp[execOp,f,resolve,invoke,builtin,r,y.trans e0,h,Result.andThen];refine l v w ?_ (World.grownBy.same _ _);rw[a1r,a1H];exact b
 . subst e0;exact ak p s x t f base e i z size bytes k h2 G H I J L v n xs r b ⟨g,0,none⟩ m cap news y q (a1Q c rfl) j A B C fun v' w' N O _=>l v' w' N O
theorem GY(a b:ByteArray):aZ a.data.toList b.data.toList=(a.toList == b.toList || (ce a.data.toList b.data.toList || ce b.data.toList a.data.toList)):=by
 unfold aZ;rw[a08,a08,Bool.or_comm (ce b.data.toList _)]
theorem yg(a:Option Addr)(cap:Nat)(l:List En)(n:Nat)(y:l.length=n)(x:ByteArray)(w:World)(h:lT w a l)(O:(n:Int)<=1048576)(G:(x.size:Int)<=1048576)
  (F:∀i,i<n->((l.getD i default).n.size:Int)<=1048576) :
  Calls prog 155 #[.slice a n cap,.string x] w fun e w'=>e = .returned (.bool (jF l x))/\w'=w:=by
 have K:=af F;have J:=af h;have z:=af (fun k (v:k<l.length)=>@qZ l x k v);have A:=af (@ox l x);rw[y]at z A;have B:=af y;clear h F y;go_enter func155,ntmps155;go_wp2_with fail
 go_loop [5] (fun i=>∃k:Nat,k<=n/\i = .int .i64 k/\(∀j,j<k->aZ (l.getD j default).n.data.toList x.data.toList=false)) (fun i=>n-(intOf i).toNat)
 case atStart=>exact⟨0,a0h _,rfl,fun j E=>absurd E (by omega)⟩
 case round=>
  obtain⟨k,v,rfl,f⟩:=hrel;have c:=af f;clear f;by_cases d:k<n
  .
   have M:(k:Int)<(n:Int):=by omega
   obtain⟨g,o,rfl,N,D⟩:=ae J (by have:=ae B;omega);have c0:=(D k (by have:=ae B;omega)).1;have s:=af d;have b:=af (ae z k d);have r:=ae K k d;have H:=af (fun W=>iP (l.getD k default).n x W r G);have I:=af (fun W=>iP x (l.getD k default).n W G r);have q:Hid (aZ (l.getD k default).n.data.toList x.data.toList=false->∀j,j<k+1->aZ (l.getD j default).n.data.toList x.data.toList=false):=by
    intro e j E;by_cases u:j=k
    . rw[u];exact e
    . exact ae c j (by omega)
   rw[GY]at b q;clear D v c d r;generalize (l.getD k default).n=p at *
   generalize ce p.data.toList x.data.toList=u1 at *
   generalize ce x.data.toList p.data.toList=u2 at *
   cases C:(p.toList == x.toList)
   .
    rw[C]at b q;go_wp2_with fail;refine(ae H _).mono ?_;rintro e w1 ⟨rfl,t⟩;rw[t];clear t;cases u1
    .
     go_wp2_with fail;refine(ae I _).mono ?_;rintro e w2 ⟨rfl,t⟩;rw[t];clear t;cases u2
     .
      have L:=af (ae q rfl);go_wp2
      go_round
      case rel=>exact⟨k+1,by have:=ae s;omega,by go_num,ae L⟩
      case measure=>have:=ae s;simp[intOf];omega
     . have m:=af (ae b rfl);go_wp2;go_ret;exact⟨by rw[ae m];rfl,rfl⟩
    . have m:=af (ae b rfl);go_wp2;go_ret;exact⟨by rw[ae m];rfl,rfl⟩
   . rw[C]at b;have m:=af (ae b rfl);go_wp2;go_ret;exact⟨by rw[ae m];rfl,rfl⟩
  .
   obtain rfl:k=n:=by omega
   have m:=af (ae A (ae c));go_wp2;go_ret;exact⟨by rw[ae m];rfl,rfl⟩
structure ESt (w:World) (e:En) (W:World):Prop where
 below:Below w.heap.size w W
 lt:w.heap.size<W.heap.size
 blk:Blk W w.heap.size [.string e.n,.int .i64 e.y,.int .i64 e.mo,.int .i64 e.d,.int .i64 e.h,.int .i64 e.mi,.int .i64 e.s,.string e.t]
theorem ESt.all{e:En}(h:ESt w e W):∀i,i<8->W.cell? ⟨w.heap.size,i,none⟩=[.string e.n,.int .i64 e.y,.int .i64 e.mo,.int .i64 e.d,.int .i64 e.h,.int .i64 e.mi,.int .i64 e.s,.string e.t][i]?:=h.blk.cells rfl
theorem ESt.drew{e:En}(h:ESt w e W):ESt w e W.drew:=⟨h.1.drew,h.2,h.3.drew⟩
theorem ESt.alloc{e:En}(h:ESt w e W)(o:Obj):ESt w e (W.alloc o):=by
 have hb:Below W.heap.size W (W.alloc o):=(a0c _ _).alloc (a0a _) _;exact⟨h.1.alloc (a0y h.2) o,a0i h.2 hb.size,h.3.later hb h.2⟩
theorem ESt.grown{W':World}{e:En}{v:Value}{n:Nat}{xs:List Value}(h:ESt w e W)(b:W.ownsRow (w.heap.size+1) 32 8 v n xs)(a:W.grownBy W' v.ownBlock):ESt w e W':=
 ⟨h.1.grown a (a0y h.2) (fun k e=>by have:=(a0p b k e).1;omega),a0i h.2 a.size,h.3.grown a (fun e=>by have:=(a0p b _ e.symm).1;omega)⟩
theorem nv{g:Nat}{vs:List Value}(h:Blk W g vs):∀j u,vs[j]?=some u->W.cell? ((⟨g,0,none⟩:Addr).add j)=some u:=fun j u a=>by
 have e:(⟨g,0,none⟩:Addr).add j=⟨g,j,none⟩:=by unfold Addr.add;split<;>simp_all
 rw[e];exact h.cell j u a
theorem vu{b n:Nat}{v:Value}{l:List En}{e:En}(a:l.length=n)(h:W.ownsRow (b+1) 32 8 v (0+n+1) ([]++l.flatMap iX++iX e)):ie W b v (l++[e]):=
 aN.mono (aN.snoc a (by rw[a0B,a1v]at h;exact h)) (a1k _)
theorem EM(v:Value)(l:List En)(e:En)(ob:Nat)(w:World)(h:ie w ob v l)(Q:l.length<=6)(hs:∀i,i<l.length->((l.getD i default).n.size:Int)<=1048576)(he:e.n.size<=1048576)(ht:(e.t.size:Int)<=9223372036854775807) :
  Calls prog 109 #[v,.agg #[.string e.n,.int .i64 e.y,.int .i64 e.mo,.int .i64 e.d,.int .i64 e.h,.int .i64 e.mi,.int .i64 e.s,.string e.t]] w fun f w'=>(∃v',f = .returned (.tuple #[v',.int .i64 (cj l e)])/\(cj l e=0->ie w' w.heap.size v' (l++[e]))/\(cj l e≠0->v'=v))/\Below w.heap.size w w':=by
 have Z:prog.follows .mixedOrders=true:=by kernel_rfl
 obtain⟨i0,V,D,E,F⟩:=a0s Tryz.infoEnt;obtain⟨n,hn⟩:∃n,l.length=n:=⟨_,rfl⟩;obtain⟨a,c,rfl,hc,_⟩:=h.formN hn;rw[hn]at Q hs;have ad:(n:Int)<=6:=by omega
 have p:Hid (0+n<=maxLen/\(0+n)*80<=140737488355328/\0+n+1<=maxLen/\(0+n+1)*80<=140737488355328):=by show _/\_;unfold maxLen;omega
 have J:Hid (ESt w e (w.alloc (.cells #[.string e.n,.int .i64 e.y,.int .i64 e.mo,.int .i64 e.d,.int .i64 e.h,.int .i64 e.mi,.int .i64 e.s,.string e.t] 32))):=⟨(a0c _ _).alloc (a0a _) _,by simp,aP w _ _⟩;have CE:=af (gG e.n e.y e.mo e.d e.h e.mi e.s e.t (w.alloc (.cells #[.string e.n,.int .i64 e.y,.int .i64 e.mo,.int .i64 e.d,.int .i64 e.h,.int .i64 e.mi,.int .i64 e.s,.string e.t] 32)) he ht);have CC:=af (fun W (hb:Below w.heap.size w W)=>yg a c l n hn e.n W (im hn (h.later hb (a0a _))) (by omega) (by omega) hs);have T:=af hn;have HO:=af h;clear h hs he ht hn hc Q;go_enter func109,ntmps109;go_wp2_with fail;refine(ae CE).mono ?_;rintro f x1 ⟨rfl,P⟩;have N:Hid (ESt w e x1):=⟨am (ae J).1 P,a0i (ae J).2 P.size,(ae J).3.later P (ae J).2⟩;clear CE P J;have X:=af (ae N).1;cases U:jk e
 .
  have B:Hid (cj l e=1):=by show _=_;unfold cj;rw[a0d (by rw[U];decide)]
  rw[show fV e.n e.y e.mo e.d e.h e.mi e.s e.t=false from U];clear U;go_wp2
  go_ret2
  exact⟨⟨_,by rw[ae B];rfl,fun h=>(by rw[ae B]at h;cases h),fun _=>rfl⟩,ae X⟩
 .
  have G:Hid (cj l e=if jF l e.n then 3 else if 6<=n then 4 else 0):=by show _=_;unfold cj;rw[a0e U,ae T]
  rw[show fV e.n e.y e.mo e.d e.h e.mi e.s e.t=true from U];clear U;have pA:=(ae N).all;go_wp2_with fail;refine(ae CC _ (ae X)).mono ?_;rintro f x2 ⟨rfl,aa⟩;rw[aa];clear CC pA aa x2;cases hA:jF l e.n
  .
   rw[hA]at G;clear hA;by_cases Q:6<=n
   .
    have B:Hid (cj l e=4):=by show _=_;rw[ae G,a0d (by decide),a0e Q]
    have ab:(6:Int)<=(n:Int):=by omega
    go_wp2
    go_ret2
    exact⟨⟨_,by rw[ae B];rfl,fun h=>(by rw[ae B]at h;cases h),fun _=>rfl⟩,ae X⟩
   .
    have B:Hid (cj l e=0):=by show _=_;rw[ae G,a0d (by decide),a0d Q]
    have ab:¬ (6:Int)<=(n:Int):=by omega
    clear G Q X;go_wp2_with fail;refine a0H (S:=fun W=>∀i,i<8->W.cell? ⟨w.heap.size,i,none⟩=[.string e.n,.int .i64 e.y,.int .i64 e.mo,.int .i64 e.d,.int .i64 e.h,.int .i64 e.mi,.int .i64 e.s,.string e.t][i]?) Z ((ae N).drew.all) (fun hS=>?_);refine ag 1 (.slice a n c) rfl (by kernel_rfl) (fun _ _ _ h=>h) rfl (fun W ac=>by go_simp) hS ?_;refine ag 3 (.agg #[.string e.n,.int .i64 e.y,.int .i64 e.mo,.int .i64 e.d,.int .i64 e.h,.int .i64 e.mi,.int .i64 e.s,.string e.t]) rfl (by kernel_rfl) (fun _ _ _ h=>h) rfl (fun W ac=>by go_simp) hS ?_;clear hS;have R:=af (ae N).drew;generalize x1.drew=W1 at *
    refine a0z (rs:=[0,4]) (by kernel_rfl) (by simp) ?_;refine a0C rfl (fun K k=>?_) (a0C rfl (fun K k=>?_) (a0Y))
    .
     go_simp;have r:=af ((ae R).alloc (.cells #[] 32));have H:=af (a0P (base:=w.heap.size+1) (size:=8) (e:=32) W1 #[] 0 (ae R).2 (by unfold maxLen;omega) rfl);refine a0f k _ _ (ae r).all (fun _=>?_);clear k K;obtain⟨G0,hG0⟩:∃x,W1.heap.size=x:=⟨_,rfl⟩;obtain⟨W2,hW2⟩:∃x,W1.alloc (.cells #[] 32)=x:=⟨_,rfl⟩;rw[hG0,hW2]at H;rw[hW2]at r;rw[hG0,hW2];refine a0z (rs:=[2,4]) (by kernel_rfl) (by simp) ?_;refine a0C rfl (fun K k=>?_) (a0C rfl (fun K k=>?_) (a0Y))
     .
      refine ge rfl (.tmp 22) (.tmp 23) 33 rfl (w.heap.size+1) 32 i0 (.agg #[.string ⟨#[]⟩,.int .i64 0,.int .i64 0,.int .i64 0,.int .i64 0,.int .i64 0,.int .i64 0,.string ⟨#[]⟩]) 8 80 a2g V D E F rfl (by decide) (Value.slice (some ⟨G0,0,none⟩) 0 0) 0 [] rfl (ae H) _ ob n (l.flatMap iX) rfl (aN.own (ae T) ((ae HO).later (ae r).1 (a0a _))) (oE _) (ae p).1 (ae p).2.1 (ae r).2 ?_;intro v3 W3 g b;have m:=af ((ae r).grown (ae H) b);have u:=af g;clear g b;refine a0f k _ _ (ae m).all (fun _=>?_);clear k K;refine ah 4 (by kernel_rfl) rfl fun K k=>?_;go_simp;have q:=af ((ae m).alloc (.cells #[.string e.n,.int .i64 e.y,.int .i64 e.mo,.int .i64 e.d,.int .i64 e.h,.int .i64 e.mi,.int .i64 e.s,.string e.t] 32));have C:=af (aP W3 #[.string e.n,.int .i64 e.y,.int .i64 e.mo,.int .i64 e.d,.int .i64 e.h,.int .i64 e.mi,.int .i64 e.s,.string e.t] 32);have z:=af (a0k (ae u) (.cells #[.string e.n,.int .i64 e.y,.int .i64 e.mo,.int .i64 e.d,.int .i64 e.h,.int .i64 e.mi,.int .i64 e.s,.string e.t] 32));have M:∀j,v3.ownBlock=some j->j<W3.heap.size:=fun j hj=>(a0p (ae u) j hj).2;refine a0f k _ _ (ae q).all (fun _=>?_);clear k K;obtain⟨G1,hG1⟩:∃x,W3.heap.size=x:=⟨_,rfl⟩;obtain⟨W4,hW4⟩:∃x,W3.alloc (.cells #[.string e.n,.int .i64 e.y,.int .i64 e.mo,.int .i64 e.d,.int .i64 e.h,.int .i64 e.mi,.int .i64 e.s,.string e.t] 32)=x:=⟨_,rfl⟩;rw[hG1,hW4]at C;rw[hW4]at q z;rw[hG1]at M;rw[hG1,hW4];refine ah 5 (by kernel_rfl) rfl fun K k=>?_;refine ak rfl (.tmp 24) (.tmp 26) 33 rfl (w.heap.size+1) 32 i0 (.agg #[.string ⟨#[]⟩,.int .i64 0,.int .i64 0,.int .i64 0,.int .i64 0,.int .i64 0,.int .i64 0,.string ⟨#[]⟩]) 8 80 a2g V D E F rfl (by decide) v3 (0+n) ([]++l.flatMap iX) rfl (ae z) ⟨G1,0,none⟩ 1 1 (iX e) rfl rfl (nv (ae C)) (ik _) (ae p).2.2.1 (ae p).2.2.2 (ae q).2 ?_;intro v8 W8 g b A;have o:=af ((ae q).grown (ae z) b);have I:=af g;clear g b A;refine a0f k _ _ (ae o).all (fun _=>?_);clear k K;refine ah 6 (by kernel_rfl) rfl fun K k=>?_;go_simp;refine a0f k _ _ (ae o).all (fun _=>?_);clear k K;refine ah 7 (by kernel_rfl) rfl fun K k=>?_;go_simp;refine a0f k _ _ (ae o).all (fun _=>?_);clear k K;refine a0u (by kernel_rfl) ?_ _;go_wp2
      go_ret2
      exact⟨⟨_,by rw[ae B];rfl,fun _=>vu (ae T) (ae I),fun h=>absurd (ae B) h⟩,(ae o).1⟩
     .
      go_simp;have m:=af ((ae r).alloc (.cells #[.string e.n,.int .i64 e.y,.int .i64 e.mo,.int .i64 e.d,.int .i64 e.h,.int .i64 e.mi,.int .i64 e.s,.string e.t] 32));have L:=af (aP W2 #[.string e.n,.int .i64 e.y,.int .i64 e.mo,.int .i64 e.d,.int .i64 e.h,.int .i64 e.mi,.int .i64 e.s,.string e.t] 32);have u:=af (a0k (ae H) (.cells #[.string e.n,.int .i64 e.y,.int .i64 e.mo,.int .i64 e.d,.int .i64 e.h,.int .i64 e.mi,.int .i64 e.s,.string e.t] 32));have M:∀j,(Value.slice (some ⟨G0,0,none⟩) 0 0).ownBlock=some j->j<W2.heap.size:=fun j hj=>(a0p (ae H) j hj).2;refine a0f k _ _ (ae m).all (fun _=>?_);clear k K;obtain⟨G1,hG1⟩:∃x,W2.heap.size=x:=⟨_,rfl⟩;obtain⟨W3,hW3⟩:∃x,W2.alloc (.cells #[.string e.n,.int .i64 e.y,.int .i64 e.mo,.int .i64 e.d,.int .i64 e.h,.int .i64 e.mi,.int .i64 e.s,.string e.t] 32)=x:=⟨_,rfl⟩;rw[hG1,hW3]at L;rw[hW3]at m u;rw[hG1]at M;rw[hG1,hW3];refine ah 2 (by kernel_rfl) rfl fun K k=>?_;have Y:G0<G1:=M G0 rfl;refine ge rfl (.tmp 22) (.tmp 23) 33 rfl (w.heap.size+1) 32 i0 (.agg #[.string ⟨#[]⟩,.int .i64 0,.int .i64 0,.int .i64 0,.int .i64 0,.int .i64 0,.int .i64 0,.string ⟨#[]⟩]) 8 80 a2g V D E F rfl (by decide) (Value.slice (some ⟨G0,0,none⟩) 0 0) 0 [] rfl (ae u) _ ob n (l.flatMap iX) rfl (aN.own (ae T) ((ae HO).later (ae m).1 (a0a _))) (oE _) (ae p).1 (ae p).2.1 (ae m).2 ?_;intro v4 W4 g b;have q:=af ((ae m).grown (ae u) b);have z:=af g;have C:=af ((ae L).grown b (fun e=>by have Q:G1=G0:=a0Z e;omega));clear g b;refine a0f k _ _ (ae q).all (fun _=>?_);clear k K;refine ah 5 (by kernel_rfl) rfl fun K k=>?_;refine ak rfl (.tmp 24) (.tmp 26) 33 rfl (w.heap.size+1) 32 i0 (.agg #[.string ⟨#[]⟩,.int .i64 0,.int .i64 0,.int .i64 0,.int .i64 0,.int .i64 0,.int .i64 0,.string ⟨#[]⟩]) 8 80 a2g V D E F rfl (by decide) v4 (0+n) ([]++l.flatMap iX) rfl (ae z) ⟨G1,0,none⟩ 1 1 (iX e) rfl rfl (nv (ae C)) (ik _) (ae p).2.2.1 (ae p).2.2.2 (ae q).2 ?_;intro v8 W8 g b A;have o:=af ((ae q).grown (ae z) b);have I:=af g;clear g b A;refine a0f k _ _ (ae o).all (fun _=>?_);clear k K;refine ah 6 (by kernel_rfl) rfl fun K k=>?_;go_simp;refine a0f k _ _ (ae o).all (fun _=>?_);clear k K;refine ah 7 (by kernel_rfl) rfl fun K k=>?_;go_simp;refine a0f k _ _ (ae o).all (fun _=>?_);clear k K;refine a0u (by kernel_rfl) ?_ _;go_wp2
      go_ret2
      exact⟨⟨_,by rw[ae B];rfl,fun _=>vu (ae T) (ae I),fun h=>absurd (ae B) h⟩,(ae o).1⟩
    .
     go_simp;have r:=af ((ae R).alloc (.cells #[.string e.n,.int .i64 e.y,.int .i64 e.mo,.int .i64 e.d,.int .i64 e.h,.int .i64 e.mi,.int .i64 e.s,.string e.t] 32));have O:=af (aP W1 #[.string e.n,.int .i64 e.y,.int .i64 e.mo,.int .i64 e.d,.int .i64 e.h,.int .i64 e.mi,.int .i64 e.s,.string e.t] 32);refine a0f k _ _ (ae r).all (fun _=>?_);clear k K;obtain⟨G1,hG1⟩:∃x,W1.heap.size=x:=⟨_,rfl⟩;obtain⟨W2,hW2⟩:∃x,W1.alloc (.cells #[.string e.n,.int .i64 e.y,.int .i64 e.mo,.int .i64 e.d,.int .i64 e.h,.int .i64 e.mi,.int .i64 e.s,.string e.t] 32)=x:=⟨_,rfl⟩;rw[hG1,hW2]at O;rw[hW2]at r;rw[hG1,hW2];refine ah 0 (by kernel_rfl) rfl fun K k=>?_;go_simp;have m:=af ((ae r).alloc (.cells #[] 32));have u:=af (a0P (base:=w.heap.size+1) (size:=8) (e:=32) W2 #[] 0 (ae r).2 (by unfold maxLen;omega) rfl);have L:=af ((ae O).later ((a0c _ _).alloc (a0a _) (.cells #[] 32)) (ae O).1);have M:=(ae O).1;refine a0f k _ _ (ae m).all (fun _=>?_);clear k K;obtain⟨G0,hG0⟩:∃x,W2.heap.size=x:=⟨_,rfl⟩;obtain⟨W3,hW3⟩:∃x,W2.alloc (.cells #[] 32)=x:=⟨_,rfl⟩;rw[hG0,hW3]at u;rw[hW3]at m L;rw[hG0,hW3];refine ah 2 (by kernel_rfl) rfl fun K k=>?_;have Y:G1<G0:=by omega
     refine ge rfl (.tmp 22) (.tmp 23) 33 rfl (w.heap.size+1) 32 i0 (.agg #[.string ⟨#[]⟩,.int .i64 0,.int .i64 0,.int .i64 0,.int .i64 0,.int .i64 0,.int .i64 0,.string ⟨#[]⟩]) 8 80 a2g V D E F rfl (by decide) (Value.slice (some ⟨G0,0,none⟩) 0 0) 0 [] rfl (ae u) _ ob n (l.flatMap iX) rfl (aN.own (ae T) ((ae HO).later (ae m).1 (a0a _))) (oE _) (ae p).1 (ae p).2.1 (ae m).2 ?_;intro v4 W4 g b;have q:=af ((ae m).grown (ae u) b);have z:=af g;have C:=af ((ae L).grown b (fun e=>by have Q:G1=G0:=a0Z e;omega));clear g b;refine a0f k _ _ (ae q).all (fun _=>?_);clear k K;refine ah 5 (by kernel_rfl) rfl fun K k=>?_;refine ak rfl (.tmp 24) (.tmp 26) 33 rfl (w.heap.size+1) 32 i0 (.agg #[.string ⟨#[]⟩,.int .i64 0,.int .i64 0,.int .i64 0,.int .i64 0,.int .i64 0,.int .i64 0,.string ⟨#[]⟩]) 8 80 a2g V D E F rfl (by decide) v4 (0+n) ([]++l.flatMap iX) rfl (ae z) ⟨G1,0,none⟩ 1 1 (iX e) rfl rfl (nv (ae C)) (ik _) (ae p).2.2.1 (ae p).2.2.2 (ae q).2 ?_;intro v8 W8 g b A;have o:=af ((ae q).grown (ae z) b);have I:=af g;clear g b A;refine a0f k _ _ (ae o).all (fun _=>?_);clear k K;refine ah 6 (by kernel_rfl) rfl fun K k=>?_;go_simp;refine a0f k _ _ (ae o).all (fun _=>?_);clear k K;refine ah 7 (by kernel_rfl) rfl fun K k=>?_;go_simp;refine a0f k _ _ (ae o).all (fun _=>?_);clear k K;refine a0u (by kernel_rfl) ?_ _;go_wp2
     go_ret2
     exact⟨⟨_,by rw[ae B];rfl,fun _=>vu (ae T) (ae I),fun h=>absurd (ae B) h⟩,(ae o).1⟩
  .
   have B:Hid (cj l e=3):=by show _=_;rw[ae G,hA,a0e rfl]
   clear hA;go_wp2
   go_ret2
   exact⟨⟨_,by rw[ae B];rfl,fun h=>(by rw[ae B]at h;cases h),fun _=>rfl⟩,ae X⟩
end Go.Proofs.YtkdlcomfpffhhaaGreatDoor
