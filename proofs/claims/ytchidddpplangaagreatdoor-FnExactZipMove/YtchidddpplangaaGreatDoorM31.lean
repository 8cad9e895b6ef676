/- Of what the proof is made: 2 texts, one behind the other. -/
import Derived.Test.YtchidddpplangaaGreatDoorM30
import Derived.Lib.QuietBelow
set_option linter.unusedSimpArgs false
set_option linter.unusedVariables false
set_option maxHeartbeats 1600000
namespace Go.Proofs.YtchidddpplangaaGreatDoor
open Go.RowKit
theorem kj.take{w:World}{a:Option Addr}{l:List En}(h:kj w a l)(k:Nat):kj w a (l.take k):=by
 intro b;have c:0<l.length:=by rw[a0s]at b;omega
 obtain⟨g,o,e,f,d⟩:=h c;refine⟨g,o,e,f,fun i j=>?_⟩;rw[a0s]at j;have e1:(l.take k).getD i default=l.getD i default:=by
  simp only[List.getD];rw[List.getElem?_take_of_lt (by omega)]
 rw[e1];exact d i (by omega)
theorem nu(l:List En)(k i:Nat)(a:i<k):(l.take k).getD i default=l.getD i default:=by
 simp only[List.getD];rw[List.getElem?_take_of_lt a]
def iV(l:List En)(i:Nat):Int:=bW (l.take i) (l.getD i default)
theorem MW(l:List En)(e:En):bW l e=0∨bW l e=1∨bW l e=3∨bW l e=4:=by
 unfold bW;split<;>(try split)<;>(try split)<;>simp
theorem yH(a:Option Addr)(cap:Nat)(l:List En)(n:Nat)(hn:l.length=n)(m:Int)(w:World)(h:kj w a l)(hl:(n:Int)<=1048576)(aa:(n:Int)<=(cap:Int))
  (hs:∀i,i<n->(l.getD i default).n.size<=1048576/\((l.getD i default).t.size:Int)<=9223372036854775807) (T:w.cell? ⟨2,0,none⟩=some (.int .i64 m)) :
  Calls Tryz.prog 82 #[.slice a n cap] w fun e w'=>(∃c:Int,e = .returned (dG c)/\(c=0<->∀i,i<n->iV l i=0)/\(c=0∨c=1∨c=3∨c=4))/\Below w.heap.size w w':=by
 have D:Tryz.prog.follows .mixedOrders=true:=by kernel_rfl
 have Q:=ae hs;have HR:=ae h;have HM:=ae T;have U:=ae (World.block_lt_of_cell? _ _ T);have CM:=ae (fun W (hb:Below w.heap.size w W)=>(hb.cell (p:=⟨2,0,none⟩) (ab U)).trans (ab HM));have N:=ae hn;clear h hs T hn;go_enter Tryz.func82,Tryz.ntmps82;go_wp2_with fail
 go_loopw [3,4,5,8] (fun _ _ _ i wr=>∃k:Nat,k<=n/\i = .int .i64 k/\(∀j,j<k->iV l j=0)/\Below w.heap.size w wr) (fun _ _ _ i _=>n-(intOf i).toNat)
 case atStart=>exact⟨0,a0g _,rfl,fun j hj=>absurd hj (by omega),a0c _ _⟩
 case round=>
  obtain⟨k,hk,rfl,B,C⟩:=hrel;have u:=ae B;have b:=ae C;clear B C;by_cases A:k<n
  .
   have ac:(k:Int)<(n:Int):=by omega
   have ad:(k:Int)<=(cap:Int):=by omega
   obtain⟨g,o,rfl,hg,hc⟩:=(ab HR).later (ab b) (by have:=ab N;omega);obtain⟨c0,c1,c2,c3,c4,c5,c6,c7⟩:=hc k (by have:=ab N;omega);have E:=ae A;have M:Hid ((l.take k).length=k):=by show _=_;rw[a0s,ab N];omega
   have K:=ae (fun W (hW:Below w.heap.size w W)=>mP (some ⟨g,o,none⟩) cap (l.take k) k (ab M) (l.getD k default) m W (((ab HR).later hW).take k) (by omega)
    (fun i hi=>by rw[nu l k i hi];have:=(ab Q i (by omega)).1;omega) (ab Q k A).1 (ab Q k A).2 (ab CM W hW))
   have I:=ae (MW (l.take k) (l.getD k default));have z:Hid (bW (l.take k) (l.getD k default)=iV l k):=rfl;have F:Hid (iV l k=0->∀j,j<k+1->iV l j=0):=by
    intro e j hj;by_cases S:j=k
    . rw[S];exact e
    . exact ab u j (by omega)
   clear hc hk u A;generalize l.getD k default=en at *
   by_cases r:bW (l.take k) en=0
   .
    have H:dG (bW (l.take k) en) = .nilIface:=by rw[r];rfl
    rw[H]at K;have HX:=ae (ab F ((ab z).symm.trans r));clear H r z F I;go_wp2_with fail;obtain⟨W4,hW4⟩:∃W,W=wr.alloc (.cells #[.string en.n,.int .i64 en.y,.int .i64 en.mo,.int .i64 en.d,.int .i64 en.h,.int .i64 en.mi,.int .i64 en.s,.string en.t] 31):=⟨_,rfl⟩;rw[←hW4];have v:Hid (Ent W4 wr.heap.size en.n en.y en.mo en.d en.h en.mi en.s en.t):=by rw[hW4];exact qd wr en.n en.y en.mo en.d en.h en.mi en.s en.t 31
    have f:Hid (Below w.heap.size w W4):=by rw[hW4];exact(ab b).alloc (ab b).size _
    clear hW4;obtain⟨⟨u0,u1,u2,u3,u4,u5,u6,u7⟩,_,_⟩:=ab v;have k0:=cell_regrown u0;have V:=cell_regrown u1;have X:=cell_regrown u2;have Y:=cell_regrown u3;have Z:=cell_regrown u4;have k5:=cell_regrown u5;have k6:=cell_regrown u6;have k7:=cell_regrown u7;have J:=fun d os=>Calls.regrown_of (w:=W4) (d:=d) (os:=os) (ab K _ ((ab f).trans ((below_regrown W4 d os).mono (ab f).size)));clear u0 u1 u2 u3 u4 u5 u6 u7 v;refine wp_region_quiet_below D (by kernel_rfl) ?_;repeat (quiet_step (exact J _ _))
    refine a1D ?_;intro zw G;obtain⟨⟨R,osq⟩,x⟩:=G;have q:=below_regrown W4 R osq;rw[←x]at q;have L:=ae (ai (ab f) q);clear x q k0 V X Y Z k5 k6 k7 J f;go_wp2;go_roundw
    case rel=>exact⟨k+1,by have:=ab E;omega,by go_num,ab HX,ab L⟩
    case measure=>have:=ab E;simp[intOf];omega
   .
    have H:dG (bW (l.take k) en) = .iface 76 (.agg #[.int .i64 (bW (l.take k) en)]):=by unfold dG;rw[a0d r]
    have HF:=ae H.symm;rw[H]at K;have P:Hid (¬ ∀i,i<n->iV l i=0):=fun e=>r ((ab z).trans (e k (ab E)));have O:=ae r;clear H r z F;generalize bW (l.take k) en=c at *
    go_wp2_with fail;obtain⟨W4,hW4⟩:∃W,W=wr.alloc (.cells #[.string en.n,.int .i64 en.y,.int .i64 en.mo,.int .i64 en.d,.int .i64 en.h,.int .i64 en.mi,.int .i64 en.s,.string en.t] 31):=⟨_,rfl⟩;rw[←hW4];have v:Hid (Ent W4 wr.heap.size en.n en.y en.mo en.d en.h en.mi en.s en.t):=by rw[hW4];exact qd wr en.n en.y en.mo en.d en.h en.mi en.s en.t 31
    have f:Hid (Below w.heap.size w W4):=by rw[hW4];exact(ab b).alloc (ab b).size _
    clear hW4;obtain⟨⟨u0,u1,u2,u3,u4,u5,u6,u7⟩,_,_⟩:=ab v;have k0:=cell_regrown u0;have V:=cell_regrown u1;have X:=cell_regrown u2;have Y:=cell_regrown u3;have Z:=cell_regrown u4;have k5:=cell_regrown u5;have k6:=cell_regrown u6;have k7:=cell_regrown u7;have J:=fun d os=>Calls.regrown_of (w:=W4) (d:=d) (os:=os) (ab K _ ((ab f).trans ((below_regrown W4 d os).mono (ab f).size)));clear u0 u1 u2 u3 u4 u5 u6 u7 v;refine wp_region_quiet_below D (by kernel_rfl) ?_;repeat (quiet_step (exact J _ _))
    refine a1D ?_;intro zw G;obtain⟨⟨R,osq⟩,x⟩:=G;have q:=below_regrown W4 R osq;rw[←x]at q;have L:=ae (ai (ab f) q);clear x q k0 V X Y Z k5 k6 k7 J f;go_wp2;go_ret;refine⟨⟨c,?_,⟨fun e=>absurd e (ab O),fun e=>absurd e (ab P)⟩,ab I⟩,ab L⟩;rw[←ab HF];rfl
  .
   obtain rfl:k=n:=by omega
   go_wp2;go_ret;exact⟨⟨0,rfl,⟨fun _=>ab u,fun _=>rfl⟩,.inl rfl⟩,ab b⟩
theorem IL(l:List En)(x:ByteArray):i7 l x=false<->∀j,j<l.length->bZ (l.getD j default).n.data.toList x.data.toList=false:=by
 refine⟨fun h j a=>?_,pS⟩;cases e:bZ (l.getD j default).n.data.toList x.data.toList
 . rfl
 . rw[sO a e]at h;cases h
theorem Hi(l:List En)(e:En):bW l e=0<->gV e=true/\i7 l e.n=false/\l.length<6:=by
 unfold bW;cases b:gV e
 . simp
 .
  cases h2:i7 l e.n
  .
   by_cases a:6<=l.length
   . simp[a]
   . simp[a];omega
  . simp
theorem fW{l:List En}{i:Nat}(e:i<l.length):iV l i=0<->gV (l.getD i default)=true/\(∀j,j<i->bZ (l.getD j default).n.data.toList (l.getD i default).n.data.toList=false)/\i<6:=by
 have d:(l.take i).length=i:=by rw[a0s];omega
 unfold iV;rw[Hi,IL,d];constructor
 . rintro⟨b,h2,c⟩;exact⟨b,fun j a=>by have:=h2 j a;rwa[nu l i j a]at this,c⟩
 . rintro⟨b,h2,c⟩;exact⟨b,fun j a=>by rw[nu l i j a];exact h2 j a,c⟩
theorem Lz(a:List UInt8):fB a a=false:=by
 cases e:fB a a
 . rfl
 . have:=(List.isPrefixOf_iff_prefix.1 e).length_le;rw[a0j]at this;simp only[a0D,a0S]at this;omega
theorem sW{a b:List UInt8}(h:bZ a b=false):¬ a=b/\fB b a=false/\fB a b=false:=by
 simp only[bZ,a2n,a03,ne_eq]at h;exact⟨h.1,h.2.1,h.2.2⟩
theorem nl(l:List En)(i:Nat):uv l i=true<->gV (l.getD i default)=true/\atN l (l.getD i default).n=(i:Int)/\ri l i=true:=by
 simp[uv]
theorem FE{l:List En}{i j:Nat}(g:i<l.length)(f:j<i)(e:(l.getD j default).n.data.toList=(l.getD i default).n.data.toList):¬ atN l (l.getD i default).n=(i:Int):=by
 intro h;unfold atN at h
 split at h
 .
  rename_i q hq;have b:q=i:=by omega
  subst b;rw[List.findIdx?_eq_some_iff_getElem]at hq;obtain⟨_,_,d⟩:=hq;have c:=d j f;have a:j<l.length:=by omega
  simp only[List.getD,List.getElem?_eq_getElem a,a1x]at e;simp only[a2N]at c;exact c (by simpa[List.getD]using e)
 . omega
theorem nz(l:List En):dm l=true<->∀i,i<l.length->iV l i=0:=by
 constructor
 . intro h i b;simp only[dm,a0n,a0w,a1a]at h;obtain⟨f,g⟩:=h;obtain⟨e1,e2,e3⟩:=(nl l i).1 (f i (List.mem_range.2 b));refine(fW b).2 ⟨e1,fun j d=>?_,by omega⟩;obtain⟨_,_,f3⟩:=(nl l j).1 (f j (List.mem_range.2 (by omega)));simp only[ri,a1a,Bool.not_eq_true']at e3 f3;have u1:=e3 j (List.mem_range.2 (by omega));have u2:=f3 i (List.mem_range.2 b);simp only[bZ,a2n,a03,ne_eq];exact⟨fun e=>FE b d e e2,u1,u2⟩
 .
  intro h;have g:l.length<=6:=by
   rcases a1k 6 l.length with c|c
   . have:=((fW c).1 (h 6 c)).2.2;omega
   . exact c
  rw[Fy (fun i b=>?_)]
  . simpa using g
  .
   obtain⟨c1,c2,_⟩:=(fW b).1 (h i b);refine(nl l i).2 ⟨c1,wY b (fun j d e=>(sW (c2 j d)).1 (ec.1 e)) rfl,zG (fun k m=>?_)⟩;rcases Nat.lt_trichotomy k i with a|a|a
   . exact(sW (c2 k a)).2.1
   . rw[a];exact Lz _
   . exact(sW (((fW m).1 (h k m)).2.1 i a)).2.2
end Go.Proofs.YtchidddpplangaaGreatDoor
