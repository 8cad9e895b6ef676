/- Of what the proof is made: 2 texts, one behind the other. -/
import Derived.Deep.RegionLawGrows
import Derived.Lib.SplitLaws
set_option linter.unusedSimpArgs false
set_option linter.unusedVariables false
namespace Go
theorem aK{P:Program}{ops:Array Oper}{o:Oper}{a:Act}{w:World}{K:Act->World->Prop}{Q:Exit->Act->World->Prop}{E:Prop}
  (F:o.guard=none) (s x:Operand) (t:TypeId) (g:o.op=Op.call { callee:=Callee.builtin Builtin.append,args:=#[s,x],argTypes:=#[t,t] })
  (base:Nat) (e:TypeId) (i:TypeInfo) (z:Value) (size bytes:Nat) (p:P.underlying t=some (.slice e)) (h2:P.info? e=some i) (q:i.zero=some z) (r:i.size=size) (y:i.bytes=bytes) (A:z.cells.size=size) (B:0<size)
  (v:Value) (n:Nat) (xs:List Value) (H:a.eval s=v) (b:w.ownsRow base e size v n xs)
  (ad:Addr) (m c:Nat) (news:List Value) (J:a.eval x = .slice (some ad) m c) (G:news.length=m*size) (D:∀j u,news[j]?=some u->w.cell? (ad.add j)=some u) (f:∀u∈news,u.oneCell'=true)
  (h:n+m<=maxLen) (k:(n+m)*bytes<=140737488355328) (l:base<=w.heap.size)
  (C:∀v' w',w'.ownsRow base e size v' (n+m) (xs++news)->w.grownBy w' v.ownBlock->(v' = .slice none 0 0<->v = .slice none 0 0/\m=0)->K (a.put o.dst v') w') :
  if Region.wanted o (yielded ops a.tmps)=true then Oper.wp P o a w K Q else E:=by
 have I:Region.wanted o (yielded ops a.tmps)=true:=by simp[Region.wanted,F]
 rw[if_pos I];obtain⟨v',w',d,L,M,N⟩:=run_append_own (P:=P) w base t o.type e i z size bytes p h2 q r y A B v n xs b ad m c news G D f h k l;unfold Oper.wp;simp[execOp,g,resolve,invoke,builtin,H,J,d,Result.andThen];exact C v' w' L M N
theorem iR{P:Program}{ops:Array Oper}{o:Oper}{a:Act}{w:World}{K:Act->World->Prop}{Q:Exit->Act->World->Prop}{E:Prop}(d:Nat)(_:o.dst=some d)(h:if Region.wanted o (yielded ops a.tmps)=true then Oper.wp P o a w K Q else E):if Region.wanted o (yielded ops a.tmps)=true then Oper.wp P o a w K Q else E:=h
end Go
namespace Go.Proofs.YtllhielelnfpaaaGreatDoor
open Go
def okB(b:UInt8):Bool:=decide (97<=b.toNat)&&decide (b.toNat<=122) || (decide (48<=b.toNat)&&decide (b.toNat<=57) || (b.toNat == 46 || (b.toNat == 45 || b.toNat == 95)))
def fs(p:List UInt8):Bool:=p.all okB&&(decide (1<=p.length)&&(decide (p.length<=10)&&(!(p == [46])&&!(p == [46,46]))))
def dj:List UInt8->List UInt8->List (List UInt8)
 | cur,[]=>[cur]
 | cur,b :: l=>if b=47 then cur :: dj [] l else dj (cur++[b]) l
def nj(l:List UInt8):List (List UInt8):=dj [] l
def lY(l:List UInt8):Bool:=(nj l).all fs&&decide ((nj l).length<=4)
def ahead(cur:List UInt8):List (List UInt8)->List (List UInt8)
 | []=>[cur]
 | h :: t=>(cur++h) :: t
theorem nH:∀(l cur:List UInt8),dj cur l=ahead cur (dj [] l)
 | [],cur=>by simp[dj,ahead]
 | b :: l,cur=>by
  unfold dj;by_cases h:b=47
  . simp[h,ahead]
  .
   rw[if_neg h,if_neg h,nH l (cur++[b]),nH l ([]++[b])];cases a:dj [] l with
   | nil=>simp[ahead]
   | cons h t=>simp[ahead]
theorem Ec(l a:List UInt8):dj a l≠[]:=by
 induction l generalizing a with
 | nil=>simp[dj]
 | cons b l ih=>unfold dj;split<;>simp[ih]
theorem mL:∀(l cur:List UInt8) (b:UInt8),dj cur (l++[b])=if b=47 then dj cur l++[[]]else(dj cur l).dropLast++[(dj cur l).getLastD []++[b]]
 | [],cur,b=>by
  by_cases h:b=47<;>simp[dj,h]
 | c :: l,cur,b=>by
  rw[List.cons_append];unfold dj;by_cases h:c=47
  .
   rw[if_pos h,if_pos h,mL l [] b];have a:=Ec l []
   split
   . simp
   .
    cases d:dj [] l with
    | nil=>exact absurd d a
    | cons x t=>simp
  . rw[if_neg h,if_neg h,mL l (cur++[c]) b]
theorem oE:∀(l cur:List UInt8),(dj cur l).length<=l.length+1
 | [],cur=>by simp[dj]
 | b :: l,cur=>by
  unfold dj
  split
  . have:=oE l [];simp;omega
  . have:=oE l (cur++[b]);simp;omega
theorem index_one(c b:UInt8)(l:List UInt8)(h:¬ b=c):Lib.index (b :: l) [c]=if Lib.index l [c] == -1 then -1 else Lib.index l [c]+1:=by
 rw[Lib.index];have:([c].isPrefixOf (b :: l))=false:=by simp only[List.isPrefixOf,Bool.and_true,beq_eq_false_iff_ne,ne_eq];exact fun e=>h e.symm
 rw[this];simp
theorem tg(c:UInt8)(l:List UInt8):Lib.index (c :: l) [c]=0:=by
 rw[Lib.index];simp[List.isPrefixOf]
theorem qV(c:UInt8):∀(l:List UInt8),Lib.count l [c]≠0->∃k:Nat,Lib.index l [c]=k
 | [],h=>by
  rw[Lib.count_one]at h;simp at h
 | b :: l,h=>by
  by_cases e:b=c
  . subst e;exact⟨0,tg b l⟩
  .
   rw[Lib.count_cons_ne b c l e]at h;obtain⟨k,a⟩:=qV c l h;refine⟨k+1,?_⟩;rw[index_one c b l e,a];have:¬ ((k:Int) == -1)=true:=by simp
   rw[if_neg this];omega
theorem AG(c b:UInt8)(l:List UInt8)(h:¬ b=c)(n:Nat)(d:n=Lib.count l [c]):Lib.splitK [c] 0 n (b :: l)=ahead [b] (Lib.splitK [c] 0 n l):=by
 cases n with
 | zero=>simp[Lib.splitK,ahead]
 | succ n=>
  obtain⟨k,a⟩:=qV c l (by omega);have e1:Lib.index (b :: l) [c]=((k+1:Nat):Int):=by
   rw[index_one c b l h,a];have:¬ ((k:Int) == -1)=true:=by simp
   rw[if_neg this];omega
  have n1:¬ (Lib.index (b :: l) [c] == -1)=true:=by rw[e1];simp;omega
  have n2:¬ (Lib.index l [c] == -1)=true:=by rw[a];simp
  rw[Lib.splitK,if_neg n1,e1,Lib.splitK,if_neg n2,a];simp[ahead]
theorem qA:∀(l:List UInt8),Lib.splitK [47] 0 (Lib.count l [47]) l=dj [] l
 | []=>by
  have:Lib.count [] [47]=0:=by rw[Lib.count_one];rfl
  rw[this];simp[Lib.splitK,dj]
 | b :: l=>by
  by_cases h:b=47
  . subst h;rw[Lib.count_cons_eq,Nat.add_comm,Lib.splitK,tg];simp[dj,qA l]
  . rw[Lib.count_cons_ne b 47 l h,AG 47 b l h _ rfl,qA l,dj,if_neg h,nH l ([]++[b])];simp
def Aw:List UInt8:=[97,98,99,100,101,102,103,104,105,106,107,108,109,110,111,112,113,114,115,116,117,118,119,120,121,122,48,49,50,51,52,53,54,55,56,57,46,45,95]
theorem Kd:((List.range 256).all fun n=>decide (Lib.indexByte Aw n.toUInt8<0) == !okB n.toUInt8)=true:=by decide +kernel
theorem Mn(b:UInt8):decide (Lib.indexByte Aw b<0)=!okB b:=by
 have:=List.all_eq_true.1 Kd b.toNat (List.mem_range.2 b.toNat_lt);simpa using this
end Go.Proofs.YtllhielelnfpaaaGreatDoor
