/- Of what the proof is made: 3 texts, one behind the other. -/
import Derived.Test.YtkdlcomfpffhhaaGreatDoorM5
import Derived.Laws.AppendOwnNone
import Derived.Deep.CutRange
set_option linter.unusedSimpArgs false
set_option linter.unusedVariables false
set_option maxHeartbeats 1600000
namespace Go
open Go.RowKit
theorem World.grownBy.same(w:World)(row:Option Nat):w.grownBy w row:=⟨rfl,rfl,rfl,Nat.le_refl _,fun _ _ _=>rfl⟩
theorem nj{P:Program}(w:World){ops:Array Oper}{rest:List Oper}{o:Oper}{a:Act}{Q:Exit->Act->World->Prop}(l:o.guard=none)(s x:Operand)(t:TypeId)
  (D:o.op = .call { callee:=.builtin .append,args:=#[s,x],argTypes:=#[t,t] })
  (base:Nat) (e:TypeId) (i:TypeInfo) (z:Value) (size bytes:Nat) (F:P.underlying t=some (.slice e)) (B:P.info? e=some i) (L:i.zero=some z)
  (k:i.size=size) (r:i.bytes=bytes) (A:z.cells.size=size) (y:0<size)
  (v:Value) (n:Nat) (xs:List Value) (E:a.eval s=v) (b:w.ownsRow base e size v n xs)
  (vx:Value) (base' m:Nat) (news:List Value) (G:a.eval x=vx) (c:w.ownsRow base' e size vx m news) (J:∀u∈news,u.oneCell'=true)
  (q:n+m<=maxLen) (d:(n+m)*bytes<=140737488355328) (f:base<=w.heap.size)
  (h:∀v' w',w'.ownsRow base e size v' (n+m) (xs++news)->w.grownBy w' v.ownBlock->wpList P ops Q rest (a.put o.dst v') w'):wpList P ops Q (o :: rest) a w:=by
 have C:=c.1;rcases c.2 with⟨e0,I⟩|⟨g,cap,H,e0,M⟩
 . subst I;have p:news=[]:=List.eq_nil_of_length_eq_zero (by rw[C];simp);subst p;refine wpList_append_own_none l s x t D base e i size F B v n xs E b (G.trans e0) ?_;refine h v w ?_ (World.grownBy.same _ _);rw[List.append_nil,Nat.add_zero];exact b
 . subst e0;have j:=World.ownsRow.cells c rfl;exact wpList_append_own w l s x t D base e i z size bytes F B L k r A y v n xs E b ⟨g,0,none⟩ m cap news G C j J q d f fun v' w' h2 K _=>h v' w' h2 K
end Go
namespace Go.Proofs.YtkdlcomfpffhhaaGreatDoor
open Go.Proofs.Tryz
open Go.RowKit Corb
theorem gK.below{w w':World}{b k B:Nat}(h:gK w b k)(hb:Below B w w')(a:b<B):gK w' b k:=
 ⟨fun j c=>⟨(hb.cell (p:=⟨b,j,none⟩) a).trans (h.1 j c).1,(hb.frozen (p:=⟨b,j,none⟩) a).trans (h.1 j c).2⟩,a0i h.2 hb.size⟩
theorem gK.drew{w:World}{b k:Nat}(h:gK w b k):gK w.drew b k:=h
theorem zL(x:Nat)(h:x<4294967296):bits .and .u32 (x:Int) 15=(x:Int)%16:=by
 have:=u32_and_nat x 15 h (by omega);rw[show((15:Nat):Int)=15 from rfl]at this;rw[this,nat_mask4];omega
def half(x:Nat):Nat:=shN 4 (x%16) ^^^ (x/16)
theorem vS(x:Nat):half x=shN 4 x:=(JE x).symm
theorem zK(x:Nat)(h:x<4294967296):bits .xor .u32 ((shN 4 (x%16):Nat):Int) ((x:Int)/16)=((half x:Nat):Int):=by
 have:=a2J (shN 4 (x%16)) (x/16) (sU _ _ (by omega)) (by omega);rw[show((x/16:Nat):Int)=(x:Int)/16 by omega]at this;exact this
theorem pM(b:Nat)(x:Nat)(w:World)(h:gK w b 16) :
  Calls prog 189 #[.int .u32 ((x:Int)%16),.pointer (some ⟨b,0,none⟩)] w fun e w'=>e = .returned (.int .u32 (shN 4 (x%16):Nat))/\w'=w:=by
 refine(xg b _ w h (by omega) (by omega)).mono ?_;rintro e w' ⟨rfl,rfl⟩;refine⟨?_,rfl⟩;rw[show((x:Int)%16).toNat=x%16 by omega]
theorem KY(x:Nat)(h:x<4294967296):half x<4294967296:=by rw[vS];exact sU _ _ h
theorem Az(b t:Nat)(x c:Int)(w:World)(h:Two w b (.int .u32 c) (.func (.func 189) #[] #[.pointer (some ⟨t,0,none⟩)]))(s:gK w t 16)(j:t<b)(c0:0<=c)(c1:c<4294967296)(x0:0<=x)(x1:x<256) :
  Calls prog 316 #[.pointer (some ⟨b,0,none⟩),.int .u8 x] w fun e w'=>e = .returned (.tuple #[]) /\
   Two w' b (.int .u32 (shN 8 (c.toNat ^^^ x.toNat):Nat)) (.func (.func 189) #[] #[.pointer (some ⟨t,0,none⟩)])/\Below b w w':=by
 obtain⟨C,rfl⟩:=a0r c0;obtain⟨X,rfl⟩:=a0r x0;rw[a0x,a0x];have y:=oq C X (by omega) (by omega);have d:C ^^^ X<4294967296:=a1O (n:=32) (by omega) (by omega);have r:=h;obtain⟨k0,k,f0,f1,hb⟩:=h;generalize C ^^^ X=Y at *
 have u:Hid (shN 8 Y=half (half Y)):=by rw[vS,vS,←lP];exact rfl
 generalize shN 8 Y=R at *
 have g:=KY Y d;have a1:=zL Y d;have a2:=zK Y d;have a3:=zL (half Y) g;have a4:=zK (half Y) g;generalize half (half Y)=Z2 at *
 generalize half Y=Z1 at *
 have T1:=r.set0 (.int .u32 (Y:Int));have l:Below b w (w.setCell ⟨b,0,none⟩ (.int .u32 (Y:Int))):=ap (a0c _ _) (a0a _) _;have a:=s.below l j;have f:=af l;go_enter func316,ntmps316;go_wp2_with fail;generalize w.setCell ⟨b,0,none⟩ (.int .u32 (Y:Int))=W1 at *
 clear k0 k f0 f1 r s y l;obtain⟨k0,k,f0,f1,q⟩:=T1;have T2:Hid (Two (W1.setCell ⟨b,0,none⟩ (.int .u32 (Z1:Int))).drew b (.int .u32 (Z1:Int)) (.func (.func 189) #[] #[.pointer (some ⟨t,0,none⟩)])):=(Two.set0 (w:=W1) ⟨k0,k,f0,f1,q⟩ (.int .u32 (Z1:Int))).drew;have m:Hid (Below b W1 (W1.setCell ⟨b,0,none⟩ (.int .u32 (Z1:Int))).drew):=(ap (a0c _ _) (a0a _) _).drew;go_cut[]from 13 to 31 (fun wc=>wc=(W1.setCell ⟨b,0,none⟩ (.int .u32 (Z1:Int))).drew)
 case first=>
  go_region_with (go_at_call 189;refine(pM t _ _ a.drew).mono ?_;rintro e w' ⟨rfl,rfl⟩)
  all_goals
   go_wp2_with fail
   go_meet
   exact rfl
 case rest=>
  have i:=a.below (ae m) j;have T2':=ae T2;have o:=(ae f).trans (ae m);rw[←hcut]at i T2' o;clear hcut k0 k f0 f1 T2 m f a;have p:=af o;have T3:=af T2';clear o;obtain⟨k0,k,f0,f1,v⟩:=T2';go_wp2_with fail
  go_region_with (go_at_call 189;refine(pM t _ _ i.drew).mono ?_;rintro e w' ⟨rfl,rfl⟩)
  all_goals
   go_end0
   refine⟨rfl,?_,?_⟩
   . rw[ae u];exact((ae T3).set0 _).drew
   . exact(ap (ae p) (a0a _) _).drew
theorem Bs(a:Addr)(w:World):(method 500 198 (.pointer (some a)) "loop.example/corbel/impl.add").run prog w = .ok (316,.pointer (some a)) w:=by kernel_rfl
theorem yC(a:Addr)(w:World):(method 500 198 (.pointer (some a)) "loop.example/corbel/impl.told").run prog w = .ok (317,.pointer (some a)) w:=by kernel_rfl
theorem Fp(a:Addr)(w:World):(nilAhead 500 198 (.pointer (some a)) "loop.example/corbel/impl.add").run prog w = .ok (some false) w:=by kernel_rfl
theorem zJ(x:Nat)(h:x<4294967296):bits .xor .u32 (x:Int) 4294967295=((x ^^^ full:Nat):Int):=a2J x 4294967295 h (by omega)
theorem xh(b:Nat)(x:Nat)(v:Value)(w:World)(h:Two w b (.int .u32 (x:Int)) v)(a:x<4294967296) :
  Calls prog 317 #[.pointer (some ⟨b,0,none⟩)] w fun e w'=>e = .returned (.int .i64 (x ^^^ full:Nat))/\w'=w:=by
 obtain⟨c0,c1,f0,f1,hb⟩:=h;have d:=zJ x a;have c:x ^^^ full<4294967296:=a1O (n:=32) a (by decide);generalize x ^^^ full=y at *
 go_enter func317,ntmps317;go_wp2;go_ret;exact⟨rfl,rfl⟩
theorem wC(b t:Nat)(X:Nat)(s:ByteArray)(w:World)(h:Two w b (.int .u32 (X:Int)) (.func (.func 189) #[] #[.pointer (some ⟨t,0,none⟩)]))(n:gK w t 16)(g:t<b)(p:X<4294967296)(r:s.size<=maxLen) :
  Calls prog 146 #[.iface 198 (.pointer (some ⟨b,0,none⟩)),.string s] w fun e w'=>e = .returned (.int .i64 (fold X s.data.toList ^^^ full:Nat))/\Below b w w':=by
 unfold maxLen at r;have m1:=Bs ⟨b,0,none⟩;have m2:=yC ⟨b,0,none⟩;have m3:=Fp ⟨b,0,none⟩;go_enter func146,ntmps146;go_wp2
 go_loopw [8] (fun i wr=>∃k:Nat,k<=s.size/\i = .int .i64 k/\Two wr b (.int .u32 (fold X (s.data.toList.take k):Nat)) (.func (.func 189) #[] #[.pointer (some ⟨t,0,none⟩)])/\Below b w wr) (fun i _=>s.size-(intOf i).toNat)
 case atStart=>exact⟨0,a0h _,rfl,h,a0c _ _⟩
 case round=>
  obtain⟨k,u,rfl,c,a⟩:=hrel;have q:=vQ X (s.data.toList.take k) p;have m:=n.below a g;clear n h;by_cases j:k<s.size
  .
   have l:Hid (fold X (s.data.toList.take (k+1))=shN 8 (fold X (s.data.toList.take k) ^^^ s[k].toNat)):=by
    rw[uY s k j,uo];exact rfl
   have hb:(s[k].toNat:Int)<256:=by have:=vE s[k];omega
   generalize fold X (s.data.toList.take k)=x at *
   go_wp2_with fail
   go_region_with (go_at_call 316;refine(Az b t _ _ _ c.drew m.drew g (by omega) (by omega) (by omega) hb).mono ?_;rintro e w' ⟨rfl,f,d⟩)
   all_goals
    go_wp2;go_roundw
    case rel=>exact⟨k+1,by omega,by go_num,by rw[ae l];exact f,a.drew.trans d⟩
    case measure=>simp[intOf];omega
  .
   have o:Hid (fold X (s.data.toList.take k) ^^^ full=fold X s.data.toList ^^^ full):=by
    rw[a0D (by simp;omega)];exact rfl
   generalize fold X (s.data.toList.take k)=x at *
   go_wp2_with (go_at_call 317;refine(xh b _ _ _ c q).mono ?_;rintro e w' ⟨rfl,rfl⟩);go_ret;exact⟨aO (by rw[ae o]),a⟩
theorem qy(c:Int)(s:ByteArray)(w:World)(k:s.size<=maxLen) :
  CD 95 #[.int .i64 c,.string s] w (.int .i64 (cmI c s.data.toList)):=by
 cases h:inB c 0 4294967295
 . have g:=af (MY (l:=s.data.toList) h);go_enter func95,ntmps95;go_wp2_with (go_at_call 145;refine(uW _ _).mono ?_;rintro e w' ⟨rfl,rfl⟩);go_ret;exact⟨aO (ae g).symm,a0c _ _⟩
 .
  have g:=af (Cs (l:=s.data.toList) h);obtain⟨c1,c2⟩:=aG.1 h;obtain⟨C,rfl⟩:=a0r c1;have m:=zJ C (by omega);have i:C ^^^ full<4294967296:=a1O (n:=32) (by omega) (by decide);have j:Hid (cmI (C:Int) s.data.toList=((fold (C ^^^ full) s.data.toList ^^^ full:Nat):Int)):=by
   have:=ae g;rw[this];exact rfl
  generalize C ^^^ full=X at *
  go_enter func95,ntmps95;go_wp2_with (first|(go_at_call 145;refine(uW _ _).mono ?_;rintro e w' ⟨rfl,rfl⟩)|(go_at_call 147;refine(vG _).mono ?_;rintro e w1 ⟨rfl,a,b⟩));have f:=a.2;refine(wC w1.heap.size _ X s _ (J8 w1 _ _ _) (a.below ((a0c _ w1).alloc (a0a _) _) f) f i k).mono ?_;rintro e w2 ⟨rfl,d⟩;go_wp2;go_ret;exact⟨aO (ae j).symm,b.trans (((a0c _ w1).alloc (a0a _) _).trans d |>.mono (a0y f))⟩
theorem xQ(s:ByteArray)(w:World)(d:s.size<=maxLen) :
  CD 64 #[.string s] w (.int .i64 (aL 0 s.data.toList:Nat)):=by
 have b:Hid (cmI 0 s.data.toList=(aL 0 s.data.toList:Nat)):=Cs (c:=0) (l:=s.data.toList) rfl;go_enter func64,ntmps64;go_wp2_with (go_at_call 95;refine(qy _ _ _ d).mono ?_;rintro e w' ⟨rfl,a⟩);go_ret;exact⟨aO (ae b),a⟩
end Go.Proofs.YtkdlcomfpffhhaaGreatDoor
