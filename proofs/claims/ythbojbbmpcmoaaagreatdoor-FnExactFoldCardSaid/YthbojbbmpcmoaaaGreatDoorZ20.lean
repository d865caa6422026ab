/- For, Lm, Fou, Fol, Fp8, Jr, Jq, Ja. -/
import Derived.Test.YthbojbbmpcmoaaaGreatDoorZ17
import Derived.WalkKit
import Derived.WalkSmall
import Derived.Test.YthbojbbmpcmoaaaGreatDoorZ19
import Derived.Test.YthbojbbmpcmoaaaGreatDoorZ10
import Derived.Test.YthbojbbmpcmoaaaGreatDoorZ13
import Derived.Test.YthbojbbmpcmoaaaGreatDoorZ12
import Derived.Test.YthbojbbmpcmoaaaGreatDoorZ01
import Derived.Maps.OwnSet
import Derived.Lib.IndexAny
import Derived.Lib.IndexLaws
import Derived.Shelf.Small.Strs
import Derived.Test.YthbojbbmpcmoaaaGreatDoorZ08
namespace Go.Proofs.YthbojbbmpcmoaaaGreatDoor
open Go.RowKit
set_option maxRecDepth 100000 in
set_option maxHeartbeats 1000000 in
theorem isConst_any (k o n c:Int) (t:ByteArray) (p:Option Addr) (l cp:Nat) (w:World) :
  Calls Tryz.prog 259 #[Ip.pv ⟨k,o,n,t,c⟩ (.slice p l cp)] w fun e w'=>e = .returned (.bool (decide (1≤k∧k≤4)))∧Below w.heap.size w w':=by
 have hms:=meth_self k o n c t (.slice p l cp)
 have Q:=hide (iself_at k o n c t (.slice p l cp) ⟨_,_,_,rfl⟩ w)
 have HC:=hide (fun w=>constantOf_any k o n c t w)
 generalize decide (1≤k∧k≤4)=b at HC ⊢
 unfold Ip.pv
 go_enter Tryz.func259,Tryz.ntmps259
 go_wp2_with fail
 refine Q.out.mono ?_
 rintro e w1 ⟨rfl,hb1⟩
 have HB1:=hide hb1
 clear hb1 Q
 go_wp2_with fail
 refine (HC.out _).mono ?_
 rintro e w2 ⟨rfl,hb2⟩
 have HB2:=hide (HB1.out.trans (hb2.mono HB1.out.size))
 clear hb2 HC
 go_wp2
 go_ret
 exact ⟨rfl,HB2.out⟩
theorem bit_any (b:Bool) (w:World):Calls Tryz.prog 156 #[.bool b] w fun e w'=>e = .returned (.int .i64 (if b then 1 else 0))∧w'=w:=by
 cases b <;>
 ·go_enter Tryz.func156,Tryz.ntmps156
  go_wp2
  go_ret
  exact ⟨rfl,rfl⟩
end Go.Proofs.YthbojbbmpcmoaaaGreatDoor
namespace Go.Proofs.YthbojbbmpcmoaaaGreatDoor.Vl
open Go.RowKit
def in64 (x:Int):Prop:=-9223372036854775808≤x∧x≤9223372036854775807
theorem wrap_ex (p:Int):∃ k:Int,wrap64 p=p+k*18446744073709551616∧in64 (wrap64 p):=by
 refine ⟨- ((p+9223372036854775808) / 18446744073709551616),?_,?_⟩
 ·unfold wrap64;omega
 ·unfold in64;unfold wrap64;omega
theorem wrap_id {p:Int} (h:in64 p):wrap64 p=p:=by unfold in64 at h;unfold wrap64;omega
theorem tdiv_bound (z y:Int) (hz:in64 z) (hy:y≠0) (h1:¬ (y = -1)):in64 (z.tdiv y):=by
 unfold in64 at *
 have h:=Int.natAbs_tdiv z y
 by_cases hy1:y=1
 ·subst hy1;rw [Int.tdiv_one];exact hz
 ·have h2:z.natAbs.div y.natAbs≤z.natAbs / 2:=Nat.div_le_div_left (by omega) (by omega)
  omega
theorem tmod_bound (z y:Int) (hy:y≠0):(z.tmod y).natAbs < y.natAbs:=by rw [Int.natAbs_tmod];exact Nat.mod_lt _ (by omega)
theorem mul_fits (x y:Int) (hx:in64 x) (hy:in64 y) (hy0:y≠0):(wrap64 ((wrap64 (x * y)).tdiv y)=x∧¬ (y = -1∧x = -9223372036854775808))↔in64 (x * y):=by
 obtain ⟨k,hk,hz⟩:=wrap_ex (x * y)
 generalize wrap64 (x * y)=z at *
 have hdm:=Int.mul_tdiv_add_tmod z y
 have hr:=tmod_bound z y hy0
 constructor
 ·rintro ⟨h1,h2⟩
  by_cases hm:y = -1
  ·subst hm
   unfold in64 at *
   omega
  ·rw [wrap_id (tdiv_bound z y hz hy0 hm)] at h1
   rw [h1] at hdm
   rw [Int.mul_comm] at hdm
   generalize x * y=p at *
   unfold in64 at *
   omega
 ·intro h
  have hk0:z=x * y:=by
   generalize x * y=p at *
   unfold in64 at *
   omega
  refine ⟨?_,?_⟩
  ·rw [hk0,Int.mul_tdiv_cancel _ hy0];exact wrap_id hx
  ·rintro ⟨rfl,rfl⟩
   unfold in64 at h
   omega
end Go.Proofs.YthbojbbmpcmoaaaGreatDoor.Vl
namespace Go.Proofs.YthbojbbmpcmoaaaGreatDoor
namespace Fd
def Rooted (t:Fd):Prop:=Scoped t∨Stmt t∨File t
theorem Rooted.kids {t:Fd} (h:Rooted t):∀ k∈t.ks,Rooted k:=by
 intro k hk
 rcases h with h | h | h
 ·exact .inl (h.kids k hk)
 ·exact .inl (h.2.2 k hk)
 ·exact .inr (.inl (h.2 k hk))
theorem Rooted.at14 {x:Tr.Nd} {p b:Int} {ks:List Fd} (h:Rooted (.mk x p b ks)) (h14:x.kind=14):Scoped (.mk x p b ks):=by
 rcases h with h | h | h
 ·exact h
 ·have h1:20≤x.kind:=h.1
  omega
 ·have h1:x.kind=24:=h.1
  omega
structure Cs (O:FOp):Prop where
 un:∀ op k c,O.un op k=some c→isC c
 bin:∀ op k l c,O.bin op k l=some c→isC c
theorem let_step {O:FOp} (hO:Cs O) (f:Nat) {x:Tr.Nd} {p b:Int} {k l:Fd} (h:Scoped (.mk x p b [k,l])) (h14:x.kind=14) {c:Tr.Nd} (hc:isC c):fill x.text c (fold O f l)=repl p c (fold O f l)∧Scoped (repl p c (fold O f l)):=by
 obtain ⟨e,U,h1,hU⟩:=h
 rw [ok_mk,if_neg (by omega),if_pos (.inl h14)] at h1
 obtain ⟨g1,g2⟩:=(okA_cons _ _ _ _ _ _).1 h1.2
 have gl:=ok_fold hO.un hO.bin f l _ _ (g2 l (by simp)) (upd_in hU x.text p)
 have gk:=ok_fold hO.un hO.bin f k _ _ g1 hU
 have hok:Ok e U (.mk x p b [fold O f k,fold O f l]):=by
  rw [ok_mk,if_neg (by omega),if_pos (.inl h14)]
  exact ⟨h1.1,(okA_cons _ _ _ _ _ _).2 ⟨gk,fun y hy=>by simp only [List.mem_cons,List.not_mem_nil,or_false] at hy;rw [hy];exact gl⟩⟩
 refine ⟨fill_let hok h14 hU c,e,U,ok_repl p hc _ _ (Nat.le_refl _) _ e _ U gl ?_ (.inr rfl) (fun z hz => .inl hz),hU⟩
 intro s hs
 by_cases hx:s=x.text
 ·subst hx;rw [upd_at] at hs;exact absurd rfl hs
 ·exact upd_ne e p hx
end Fd
end Go.Proofs.YthbojbbmpcmoaaaGreatDoor
namespace Go.Proofs.YthbojbbmpcmoaaaGreatDoor
open Go.RowKit
abbrev GPt (v:Value) (w:World) (y:Fd) (u:Value):Prop:=Fd.Pt (fun q=>q < w.heap.size∧v.ownBlock≠some q) w y u
theorem GPt.gw {v v':Value} {w w':World} {y:Fd} {u:Value} (h:GPt v w y u) (g:Gw v v' w w'):GPt v' w' y u :=
 Fd.Pt.go h (fun q e=>⟨Nat.lt_of_lt_of_le e.1 g.size,fun e2=>(g.own q e2).elim e.2 (fun e3=>absurd e.1 (Nat.not_lt.2 e3))⟩) (fun q e=>g.block q e.1 e.2)
theorem Fd.Pt.iface {B:Nat→Prop} {w:World} {y:Fd} {v:Value} (h:Fd.Pt B w y v):∃ t u,v = .iface t u:=by
 obtain ⟨x,p,b,ks⟩:=y
 obtain ⟨sl,xs,h1,_⟩:=(Fd.pt_mk _ _ _ _ _ _ _).1 h
 exact ⟨_,_,h1⟩
set_option maxRecDepth 100000 in
set_option maxHeartbeats 4000000 in
theorem inodes_any (base:Nat):∀ (n:Nat) (y:Fd),y.size≤n→∀ (u v:Value) (l:List Tr.Nd) (w:World),l.length+y.size≤1000000→GPt v w y u→w.ownsRow base 64 5 v l.length (Tr.cellsOf l)→base≤w.heap.size →
  Calls Tryz.prog 22 #[u,v] w fun e w'=>GivePost v w base (l++Fd.give y) e w':=by
 intro n
 induction n with
 | zero=>intro y hy;have:=Fd.size_pos y;omega
 | succ n ih =>
  intro y hy u v l w hl h hr hbase
  obtain ⟨x,p,b,ks⟩:=y
  rw [Fd.size_mk] at hy hl
  have hs:∀ t∈ks,t.size≤n:=fun t ht=>by have:=Fd.size_mem ht;omega
  have hkl:=Fd.len_size ks
  rw [Fd.give_mk]
  obtain ⟨iN,hN,hNz,hNs,hNb⟩:=info_parts infoNdF
  obtain ⟨sl,xs,hu,h2,h3,h4⟩:=(Fd.pt_mk _ _ _ _ _ _ _).1 h
  obtain ⟨sp,sc,hsl⟩:=row_formF h2
  obtain ⟨vp,vc,hv⟩:=row_formF hr
  subst hsl hv
  have HF:Hid (∀ v' w',Gw (.slice vp l.length vc) v' w w'→w'.ownsRow 0 56 1 (.slice sp ks.length sc) ks.length xs∧Fd.Pt.ptL (fun q=>q < w'.heap.size∧v'.ownBlock≠some q) w' ks xs):=hide (fun v' w' g =>
   ⟨row_ownF h2 (fun _ _=>Nat.zero_le _) (fun q e=>g.block q (h3 q e).1 (h3 q e).2),Fd.ptL_go (fun q e=>⟨Nat.lt_of_lt_of_le e.1 g.size,fun e2=>(g.own q e2).elim e.2 (fun e3=>absurd e.1 (Nat.not_lt.2 e3))⟩) (fun q e=>g.block q e.1 e.2) h4⟩)
  have HRW:=hide hr
  obtain ⟨k,o,m,t,c⟩:=x
  subst hu
  have hmk:=meth_kids k o m (ks.length:Int) t (.slice sp ks.length sc)
  have hms:=meth_self k o m (ks.length:Int) t (.slice sp ks.length sc)
  have Q:=hide (ikids_at k o m (ks.length:Int) t (.slice sp ks.length sc) ⟨_,_,_,rfl⟩ w)
  clear h h2 h3 h4 hr
  unfold Fd.nk Ip.pv
  go_enter Tryz.func22,Tryz.ntmps22
  go_wp2_with fail
  refine Q.out.mono ?_
  rintro e w1 ⟨rfl,hb1⟩
  have HB1:=hide hb1
  clear hb1 Q
  go_wp2_with fail
  go_loopw [1,10] (fun v' iv wr=>∃ i:Nat,i≤ks.length∧iv = .int .i64 (i:Int)∧wr.ownsRow base 64 5 v' (l++Fd.give.giveL (ks.take i)).length (Tr.cellsOf (l++Fd.give.giveL (ks.take i)))∧Gw (.slice vp l.length vc) v' w wr) (fun _ iv _=>ks.length - (intOf iv).toNat)
  case atStart=>exact ⟨0,Nat.zero_le _,rfl,by simpa [Fd.give.giveL] using row_below HRW.out HB1.out,.of HB1.out⟩
  case round =>
   obtain ⟨i,hi,rfl,hro,hg⟩:=hrel
   have HG:=hide hg
   have hlen:(Fd.give.giveL (ks.take i)).length+Fd.sizeL (ks.drop i)≤Fd.sizeL ks:=Fd.giveL_part ks i
   have hLl:(l++Fd.give.giveL (ks.take i)).length+Fd.sizeL (ks.drop i)≤l.length+Fd.sizeL ks:=by rw [List.length_append];omega
   obtain ⟨L,hLe⟩:∃ L,L=l++Fd.give.giveL (ks.take i):=⟨_,rfl⟩
   rw [← hLe] at hro hLl
   have HLE:=hide hLe
   clear hLe hlen
   have HR:=hide hro
   obtain ⟨g3,g5⟩:=HF.out _ _ hg
   have HK:=hide g3
   have HA:=hide g5
   have hsz:=hg.size
   clear hg hro g3 g5
   by_cases hlt:i < ks.length
   ·have hlti:(i:Int) < (ks.length:Int):=by omega
    obtain ⟨g,cc,hsl2⟩:=row_posF HK.out (by omega)
    cases hsl2
    obtain ⟨ai,hai,hta⟩:=Fd.ptL_get i HA.out hlt
    obtain ⟨ta,ua,hxi⟩:=hta.iface
    subst hxi
    have ke:wr.cell? ⟨g,i,none⟩=some (.iface ta ua):=row_cellF HK.out hai
    have hmem:ks[i]∈ks:=List.getElem_mem _
    have hdl:Fd.sizeL (ks.drop i)=ks[i].size+Fd.sizeL (ks.drop (i+1)):=by rw [List.drop_eq_getElem_cons hlt,Fd.sizeL_cons]
    obtain ⟨v'p,v'c,hv'⟩:=row_formF HR.out
    subst hv'
    have HC:=hide (ih ks[i] (hs _ hmem) (.iface ta ua) _ L wr (by omega) hta HR.out (by omega))
    clear hta hai
    go_wp2_with fail
    refine HC.out.mono ?_
    rintro e w5 ⟨v5,rfl,hr5,hg5⟩
    have e5:L++Fd.give ks[i]=l++Fd.give.giveL (ks.take (i+1)):=by
     rw [HLE.out,List.take_succ_eq_append_getElem hlt,Fd.giveL_app,List.append_assoc]
     congr 2
     rw [Fd.giveL_cons];simp [Fd.give.giveL]
    rw [e5] at hr5
    have HR5:=hide hr5
    have HG5:=hide (HG.out.trans hg5)
    clear hr5 hg5 HC
    go_wp2
    go_roundw
    case rel=>exact ⟨i+1,by omega,by go_num,HR5.out,HG5.out⟩
    case measure=>simp [intOf];omega
   ·obtain rfl:i=ks.length:=by omega
    obtain ⟨v'p,v'c,hv'⟩:=row_formF HR.out
    subst hv'
    have hz2:L.length≤1000000:=by omega
    have Q:=hide (iself_at k o m (ks.length:Int) t (.slice sp ks.length sc) ⟨_,_,_,rfl⟩ wr)
    go_wp2_with fail
    refine Q.out.mono ?_
    rintro e w2 ⟨rfl,hb2⟩
    have HB2:=hide hb2
    have HR2:=hide (row_below HR.out hb2)
    have hs2:=hb2.size
    clear hb2 Q
    go_wp2_with (at_builtin;refine wpList_append_own_at _ rfl _ _ 26 rfl base 64 iN _ 5 48 Tryz.underlying26 hN hNz hNs hNb rfl (by decide) _ _ _ rfl (HR2.out.alloc _) ⟨w2.heap.size,0,none⟩ 1 1 (⟨k,o,m,t,ks.length⟩:Tr.Nd).cells rfl rfl ?_ ?_ ?_ ?_ ?_ ?_)
    ·exact cells5F w2 ⟨k,o,m,t,ks.length⟩
    ·simp [Tr.Nd.cells,Value.oneCell']
    ·unfold maxLen;omega
    ·omega
    ·simp;omega
    ·intro v6 w6 hown6 hgrow6 hnil6 hat6
     have B0:Below 0 w2 w6:=((Below.refl 0 w2).alloc (Nat.zero_le _) _).grown hgrow6 (Nat.zero_le _) (fun _ _=>Nat.zero_le _)
     have hz1:∀ o:Obj,(w2.alloc o).heap.size=w2.heap.size+1:=fun o=>World.size_alloc _ _
     have hG6:Gw (.slice v'p L.length v'c) v6 w2 w6:=by
      refine ⟨B0.os,B0.tape,B0.output,B0.size,fun q h1 h2=>?_,fun q e=>?_⟩
      ·exact (hgrow6.block q (by rw [hz1];omega) (fun e=>h2 e.symm)).trans (((Below.refl w2.heap.size w2).alloc (Nat.le_refl _) _).block q h1)
      ·rcases hat6 with e2 | e2
       ·exact .inl (e2 ▸ e)
       ·rw [e2] at e;cases e;exact .inr (by first | omega | (rw [hz1];omega))
     have HF6:=hide ((HG.out.trans (.of HB2.out)).trans hG6)
     have er:L++[(⟨k,o,m,t,ks.length⟩:Tr.Nd)]=l++(Fd.give.giveL ks++[(⟨k,o,m,t,ks.length⟩:Tr.Nd)]):=by rw [HLE.out,List.take_length,List.append_assoc]
     have hro:w6.ownsRow base 64 5 v6 (L++[(⟨k,o,m,t,ks.length⟩:Tr.Nd)]).length (Tr.cellsOf (L++[(⟨k,o,m,t,ks.length⟩:Tr.Nd)])):=by rw [nodesF,List.length_append];exact hown6
     rw [er] at hro
     have HRO:=hide hro
     clear hro er hG6 B0 hz1 hgrow6 hown6 hnil6 hat6
     go_wp2
     go_ret
     exact ⟨v6,rfl,HRO.out,HF6.out⟩
end Go.Proofs.YthbojbbmpcmoaaaGreatDoor
namespace Go.Proofs.YthbojbbmpcmoaaaGreatDoor
namespace Fd
theorem take_fuel {ns:List Tr.Nd} {B:List Int}:∀ (f g k:Nat),k < f→k < g→k < ns.length→take ns (Tr.kids ns) B f k=take ns (Tr.kids ns) B g k:=by
 intro f
 induction f with
 | zero=>intro g k h;omega
 | succ f ih =>
  intro g k h1 h2 h3
  cases g with
  | zero=>omega
  | succ g =>
   rw [take_succ,take_succ]
   congr 1
   refine List.map_congr_left fun x hx=>?_
   have hk:k < (Tr.kids ns).length∨¬ k < (Tr.kids ns).length:=by omega
   have hlt:x < k:=by
    rcases hk with hk | hk
    ·have hx2:x∈(Tr.kids ns)[k]:=by
      have:Tr.kidsOf (Tr.kids ns) k=(Tr.kids ns)[k]:=by simp [Tr.kidsOf,hk]
      rw [this] at hx
      exact hx
     exact Tr.kids_lt ns k hk x hx2
    ·have:Tr.kidsOf (Tr.kids ns) k=[]:=by simp [Tr.kidsOf,hk]
     rw [this] at hx
     cases hx
   exact ih g x (by omega) (by omega) (by omega)
def tk (ns:List Tr.Nd) (j:Nat):Fd:=take ns (Tr.kids ns) (Tr.bindsOf ns) ns.length j
theorem tk_at {ns:List Tr.Nd} {i:Nat} (h:i < ns.length) (hk:i < (Tr.kids ns).length):tk ns i = .mk ns[i] i (Tr.bOf (Tr.bindsOf ns) i) (((Tr.kids ns)[i]).map (tk ns)):=by
 unfold tk
 cases hn:ns.length with
 | zero=>omega
 | succ n =>
  have e1:Tr.ndOf ns i=ns[i]:=by simp [Tr.ndOf,h]
  have e2:Tr.kidsOf (Tr.kids ns) i=(Tr.kids ns)[i]:=by simp [Tr.kidsOf,hk]
  rw [take_succ,e1,e2]
  congr 1
  refine List.map_congr_left fun x hx=>?_
  have:=Tr.kids_lt ns i hk x hx
  exact take_fuel n (n+1) x (by omega) (by omega) (by omega)
end Fd
end Go.Proofs.YthbojbbmpcmoaaaGreatDoor
namespace Go.Proofs.YthbojbbmpcmoaaaGreatDoor
open Go.RowKit
theorem lawS:Maps.Keyed Tryz.prog 9:=Maps.string_keyed Tryz.underlying9
theorem zeroU (w:World):(zeroValue 229).run Tryz.prog w = .ok (.agg #[]) w:=by kernel_rfl
end Go.Proofs.YthbojbbmpcmoaaaGreatDoor
namespace Go.Proofs
def Tryz.lays137_ren:Go.Shelf.Ren:=⟨fun | 137=>184 | 217=>210 | 266=>220 | n=>n,fun | 9=>9 | 5=>5 | 3=>3 | n=>n,fun | n=>n⟩
theorem Tryz.lays137:Go.Proofs.Lays.n137 Tryz.prog Tryz.lays137_ren:={
 mixed:=by kernel_rfl
 f137:=Tryz.func184.trans (congrArg some (by kernel_rfl))
 f217:=Tryz.func210.trans (congrArg some (by kernel_rfl))
 f266:=Tryz.func220.trans (congrArg some (by kernel_rfl))
 t3:=Tryz.underlying3
 a3:=Tryz.isAgg3
 z3:=Tryz.sizeOf3
 v3:=Tryz.zeroValue3
 t5:=Tryz.underlying5
 a5:=Tryz.isAgg5
 z5:=Tryz.sizeOf5
 v5:=Tryz.zeroValue5
 t9:=Tryz.underlying9
 a9:=Tryz.isAgg9
 z9:=Tryz.sizeOf9
 v9:=Tryz.zeroValue9}
open Go.RowKit in
theorem Tryz.strings_IndexByte (s:ByteArray) (c:Int) (w:World) :
  Calls Tryz.prog 184 #[.string s,.int .u8 c] w fun e w'=>e = .returned (.int .i64 (Lib.indexByte s.data.toList c.toNat.toUInt8))∧w'=w:=Any.strings_IndexByte Tryz.lays137 s c w
end Go.Proofs
namespace Go.Proofs.YthbojbbmpcmoaaaGreatDoor
open Go.RowKit
set_option maxHeartbeats 400000 in
theorem idigit_any (b:UInt8) (w:World):Calls Tryz.prog 185 #[.int .u8 b.toNat] w fun e w'=>e = .returned (.bool (Sc.dig b))∧w'=w:=by
 by_cases h1:48≤(b.toNat:Int)
 all_goals by_cases h2:(b.toNat:Int)≤57
 all_goals
  go_enter Tryz.func185,Tryz.ntmps185
  go_wp2
  go_ret
  exact ⟨ret_bool (by simp [Sc.dig];omega),rfl⟩
set_option maxHeartbeats 400000 in
theorem iname_any (b:UInt8) (w:World):Calls Tryz.prog 183 #[.int .u8 b.toNat] w fun e w'=>e = .returned (.bool (Sc.nm b))∧w'=w:=by
 have hn:Sc.nm b=(Sc.beg b || Sc.dig b):=rfl
 rw [hn];clear hn
 have hb:Sc.beg b=(decide (97≤(b.toNat:Int)) && decide ((b.toNat:Int)≤122) || ((b.toNat:Int) == 95)):=by rw [Bool.eq_iff_iff];simp [Sc.beg];omega
 have HB:=hide hb
 clear hb
 by_cases h1:97≤(b.toNat:Int)
 all_goals by_cases h2:(b.toNat:Int)≤122
 all_goals cases h3:((b.toNat:Int) == 95)
 all_goals
  go_enter Tryz.func183,Tryz.ntmps183
  go_wp2_with (go_at_call 185;refine (idigit_any _ _).mono ?_;rintro e w' ⟨rfl,rfl⟩)
  go_ret
  exact ⟨ret_bool (by rw [HB.out];simp [h1,h2,h3];try omega),rfl⟩
theorem Tr.twc_neg {b:UInt8} {r:List UInt8} (h:Sc.nm b=false):(b :: r).takeWhile Sc.nm=[]:=by simp [h]
theorem Tr.twc_pos {b:UInt8} {r:List UInt8} (h:Sc.nm b=true):((b :: r).takeWhile Sc.nm).length=(r.takeWhile Sc.nm).length+1:=by simp [h]
set_option maxHeartbeats 400000 in
theorem nameSize_any (s:ByteArray) (w:World) (hs:s.size≤1048576) :
  Calls Tryz.prog 186 #[.string s] w fun e w'=>e = .returned (.int .i64 ((s.data.toList.takeWhile Sc.nm).length:Nat))∧w'=w:=by
 go_enter Tryz.func186,Tryz.ntmps186
 go_wp2
 go_loop [3] (fun t=>∃ j:Nat,j≤s.size∧t = .int .i64 j∧j+((s.data.toList.drop j).takeWhile Sc.nm).length=(s.data.toList.takeWhile Sc.nm).length) (fun t=>s.size - (intOf t).toNat)
 case atStart=>exact ⟨0,Nat.zero_le _,rfl,by simp⟩
 case round =>
  obtain ⟨j,hj,rfl,he⟩:=hrel
  have HE:=hide he
  clear he
  by_cases hlt:j < s.size
  ·have hd:=hide (Sc.drop_cons s j hlt)
   cases hn:Sc.nm s[j]
   ·go_wp2_with (go_at_call 183;refine (iname_any _ _).mono ?_;rintro e w' ⟨rfl,rfl⟩)
    go_ret
    refine ⟨ret_int ?_,rfl⟩
    have e:=HE.out
    rw [hd.out,Tr.twc_neg hn] at e
    simp at e
    omega
   ·go_wp2_with (go_at_call 183;refine (iname_any _ _).mono ?_;rintro e w' ⟨rfl,rfl⟩)
    go_round
    case rel =>
     refine ⟨j+1,by omega,by go_num,?_⟩
     have e:=HE.out
     rw [hd.out,Tr.twc_pos hn] at e
     omega
    case measure=>simp [intOf];omega
  ·go_wp2
   go_ret
   refine ⟨ret_int ?_,rfl⟩
   have e:=HE.out
   rw [List.drop_of_length_le (i:=j) (by simp;omega)] at e
   simp at e
   omega
def Sc.wordMap {H:Type}:DataW H:=Maps.setOf (.agg []) (Sc.words.map Lit.string)
theorem Sc.has_word {H:Type} (l:List UInt8):Maps.has (Sc.wordMap (H:=H)) (.string l)=decide (l∈Sc.words):=by
 unfold Sc.wordMap
 rw [Maps.has_setOf]
 ·rw [Bool.eq_iff_iff]
  simp [Lit.sameKey]
 ·intro x hx
  simp only [List.mem_map] at hx
  obtain ⟨y,_,rfl⟩:=hx
  trivial
theorem wpList_insert_own {H:Type} {P:Program} (w:World) {ops:Array Oper} {rest:List Oper} {o:Oper} {a:Act} {Q:Exit→Act→World→Prop}
  (hg:o.guard=none) (m x v:Operand) (t:TypeId) (hop:o.op=Op.insert t m x v)
  (k e:TypeId) (K:Maps.Keyed P k) (ht:P.underlying t=some (.map k e)) (R:Value→Option (DataW H × List MemPlace)) (b n:Nat) (D:DataW H)
  (hm:a.eval m = .map (some b)) (hown:w.ownsMap P k R b n D) (hn:n < maxLen) (key val:Value) (kl:Lit) (hx:a.eval x=key) (hv:a.eval v=val) (hkey:keyOf P k key=some kl)
  (d:DataW H) (ps:List MemPlace) (hval:R val=some (d,ps))
  (hK:∀ w',w'.ownsMap P k R b (n+1) (D.put kl d)→w.grownBy w' (some b)→wpList P ops Q rest (a.put o.dst undef) w') :
  wpList P ops Q (o :: rest) a w:=by
 refine wpList_plain hg fun K' hK'=>?_
 obtain ⟨w',hrun,r1,r2⟩:=hown.update K ht hn hkey hval
 unfold Oper.wp
 simp [execOp,hop,hm,hx,hv,hrun,Result.andThen]
 exact hK' _ _ (hK w' r1 r2)
set_option maxRecDepth 100000 in
set_option maxHeartbeats 1000000 in
theorem wordSet_any (w:World):Calls Tryz.prog 93 #[] w fun e w'=>e = .returned (.map (some w.heap.size))∧w'.ownsMap (H:=Unit) Tryz.prog 9 unitElem w.heap.size 17 Sc.wordMap∧Below w.heap.size w w':=by
 have hmm:=@run_makeMap Tryz.prog
 have hm0:=World.ownsMap_made (H:=Unit) w Tryz.prog 9 unitElem
 have hb0:Below w.heap.size w (w.alloc (.map #[] 0)):=bA _
 go_enter Tryz.func93,Tryz.ntmps93
 go_wp2_with (show wpList _ _ _ ({dst:=_,op:=Op.insert _ _ _ _,type:=_,pos:=_,after:=_,guard:=_} :: _) _ _;go_must (refine wpList_insert_own _ rfl _ _ _ 153 rfl 9 229 lawS Tryz.underlying153 _ w.heap.size _ _ rfl hm0 (by unfold maxLen;decide) _ _ _ rfl rfl (WideMaps.keyOf_string_mk Tryz.underlying9 (by unfold maxLen;decide)) _ [] unitElem_mk ?_);go_must (intro w1 hm1 hg1;replace hb0:=hb0.grown hg1 hb0.size (fun k e=>by cases e;exact Nat.le_refl _);replace hm0:=hm1;clear hm1 hg1))
 go_ret
 exact ⟨rfl,hm0,hb0⟩
theorem Tr.tw_all (l:List UInt8):Tr.allOf Sc.nm l=decide ((l.takeWhile Sc.nm).length=l.length):=by
 induction l with
 | nil=>rfl
 | cons b r ih =>
  rw [Tr.allOf_cons,ih]
  cases h:Sc.nm b
  ·simp [h]
  ·simp [h]
theorem Tr.beg_nm (b:UInt8) (h:Sc.nm b=true):Sc.beg b=!Sc.dig b:=by
 have hn:Sc.nm b=(Sc.beg b || Sc.dig b):=rfl
 have:Sc.beg b=true→Sc.dig b=false:=by intro h;simp [Sc.beg,Sc.dig] at h ⊢;omega
 cases hb:Sc.beg b
 ·rw [hn,hb] at h;simp at h;simp [h]
 ·rw [this hb];rfl
theorem Tr.nameOk_form (s:ByteArray) (h:0 < s.size):Tr.nameOk s=(!decide (30 < (s.size:Int)) && !Sc.dig s[0] && !decide (s.data.toList∈Sc.words) && decide ((s.data.toList.takeWhile Sc.nm).length=s.size)):=by
 have hd:s.data.toList=s[0] :: s.data.toList.drop 1:=by simpa using Sc.drop_cons s 0 h
 have hh:s.data.toList.head?=some s[0]:=by rw [hd];rfl
 have hl:s.data.toList.length=s.size:=by simp
 unfold Tr.nameOk
 rw [hh,Tr.tw_all,hl]
 have e1:Tr.inr s.size 1 30=!decide (30 < (s.size:Int)):=by unfold Tr.inr;rw [Bool.eq_iff_iff];simp;omega
 rw [e1]
 by_cases ha:(s.data.toList.takeWhile Sc.nm).length=s.size
 ·have hall:Tr.allOf Sc.nm s.data.toList=true:=by rw [Tr.tw_all,hl];simpa using ha
  rw [hd,Tr.allOf_cons,Bool.and_eq_true] at hall
  rw [Option.map_some,Tr.beg_nm _ hall.1]
  cases Sc.dig s[0] <;> simp
 ·simp [ha]
theorem Tr.nameOk_empty (s:ByteArray) (h:s.size=0):Tr.nameOk s=false:=by
 unfold Tr.nameOk
 rw [h];rfl
theorem ba_empty (s:ByteArray):(s.toList == [])=decide (s.size=0):=by
 rw [Lib.toList_data,Bool.eq_iff_iff]
 simp [← Array.size_eq_zero_iff]
def Tr.G (ns:List Tr.Nd) (hs:List Nat) (x:Nat):Tr.Gr:=⟨ns[x]?.getD ⟨0,0,0,⟨#[]⟩,0⟩,hs[x]?.getD 0⟩
theorem Tr.G_kind (ns:List Tr.Nd) (hs:List Nat) (x:Nat):(Tr.G ns hs x).nd.kind=Tr.kindOf ns x:=by
 unfold Tr.G Tr.kindOf
 cases h:ns[x]? <;> simp
theorem Tr.over_G (ns:List Tr.Nd) (hs:List Nat) (ls:List Nat) (h:Nat):Tr.over (ls.map (Tr.G ns hs)) h=Tr.hmax hs ls h:=by
 induction ls generalizing h with
 | nil=>rfl
 | cons x r ih=>simp only [List.map_cons,Tr.over,Tr.hmax];rw [ih];rfl
theorem Tr.between_G (ns:List Tr.Nd) (hs:List Nat) (a b:Int) (ls:List Nat) (p:Int→Bool) (hp:∀ k,p k=(decide (a≤k) && decide (k≤b))):Tr.between a b (ls.map (Tr.G ns hs))=Tr.allK ns p ls:=by
 induction ls with
 | nil=>rfl
 | cons x r ih =>
  simp only [Tr.between,List.map_cons,List.all_cons,Tr.allK] at ih ⊢
  rw [ih,Tr.G_kind,hp]
theorem Tr.allK_E (ns:List Tr.Nd) (ls:List Nat):Tr.allK ns (fun k=>Tr.inr k 1 16) ls=decide (Tr.esOf ns ls=ls.length):=by
 induction ls with
 | nil=>rfl
 | cons x r ih =>
  have h1:=Tr.esOf_le ns r
  rw [Bool.eq_iff_iff,decide_eq_true_iff]
  have e1:Tr.allK ns (fun k=>Tr.inr k 1 16) (x :: r)=(Tr.isE ns x && Tr.allK ns (fun k=>Tr.inr k 1 16) r):=rfl
  have e2:Tr.esOf ns (x :: r)=(if Tr.isE ns x=true then 1 else 0)+Tr.esOf ns r:=rfl
  rw [e1,e2,ih,List.length_cons,Bool.and_eq_true,decide_eq_true_iff]
  by_cases h:Tr.isE ns x=true
  ·rw [if_pos h];simp only [h,true_and];omega
  ·rw [if_neg h];simp only [h,Bool.false_eq_true,false_and,false_iff];omega
theorem Tr.inr_dec (k a b:Int):Tr.inr k a b=(decide (a≤k) && decide (k≤b)):=by unfold Tr.inr;rw [Bool.eq_iff_iff];simp
theorem Tr.between_E (ns:List Tr.Nd) (hs:List Nat) (ls:List Nat):Tr.between 1 16 (ls.map (Tr.G ns hs))=decide (Tr.esOf ns ls=ls.length):=by
 rw [Tr.between_G ns hs 1 16 ls (fun k=>Tr.inr k 1 16) (fun k=>Tr.inr_dec k 1 16),Tr.allK_E]
theorem Tr.between_1 (ns:List Tr.Nd) (hs:List Nat) (a:Int) (ls:List Nat):Tr.between a a (ls.map (Tr.G ns hs))=Tr.allK ns (fun k=>k == a) ls :=
 Tr.between_G ns hs a a ls _ fun k=>by rw [Bool.eq_iff_iff];simp;omega
theorem Tr.differ_G (ns:List Tr.Nd) (hs:List Nat) (ls:List Nat) (hin:∀ x∈ls,x < ns.length):Tr.differ (ls.map (Tr.G ns hs))=Tr.apart ns ls:=by
 unfold Tr.differ Tr.apart
 rw [Bool.eq_iff_iff,decide_eq_true_iff,decide_eq_true_iff,List.map_map,List.nodup_iff_pairwise_ne,List.pairwise_map,List.pairwise_iff_getElem]
 have hg:∀ i (h:i < ls.length),ns[ls[i]]?.map (·.text)=some (Tr.G ns hs ls[i]).nd.text:=by
  intro i h
  have:=hin _ (List.getElem_mem h)
  simp [Tr.G,this]
 constructor
 ·intro h i hi k hk e
  rw [hg i hi,hg k (by omega)] at e
  exact h k i (by omega) hi hk (Option.some.inj e)
 ·intro h i j hi hj hij e
  refine h j hj i hij ?_
  rw [hg j hj,hg i hi]
  exact congrArg some e
theorem Tr.allK_append (ns:List Tr.Nd) (p:Int→Bool) (a b:List Nat):Tr.allK ns p (a++b)=(Tr.allK ns p a && Tr.allK ns p b):=by
 induction a with
 | nil=>simp [Tr.allK]
 | cons x r ih=>simp [Tr.allK,ih,Bool.and_assoc]
theorem Tr.firsts_le (ns:List Tr.Nd) (ls:List Nat):Tr.firsts ns ls≤ls.length:=by
 induction ls with
 | nil=>exact Nat.le_refl _
 | cons x r ih=>simp only [Tr.firsts,List.length_cons];split <;> omega
theorem Tr.firsts_take (ns:List Tr.Nd) (ls:List Nat):Tr.allK ns (fun k=>Tr.inr k 1 16) (ls.take (Tr.firsts ns ls))=true:=by
 induction ls with
 | nil=>rfl
 | cons x r ih =>
  simp only [Tr.firsts]
  by_cases h:Tr.isE ns x=true
  ·rw [if_pos h,Nat.add_comm,List.take_succ_cons,Tr.allK,ih]
   have h2:Tr.inr (Tr.kindOf ns x) 1 16=true:=h
   rw [h2];rfl
  ·rw [if_neg h];rfl
theorem Tr.firsts_eq (ns:List Tr.Nd) (ls:List Nat) (p:Nat) (hp:p≤ls.length) (h1:Tr.allK ns (fun k=>Tr.inr k 1 16) (ls.take p)=true) (h2:Tr.allK ns (fun k=>k == 18) (ls.drop p)=true):Tr.firsts ns ls=p:=by
 induction ls generalizing p with
 | nil=>simp at hp;subst hp;rfl
 | cons x r ih =>
  match p,hp with
  | 0,_ =>
   simp only [List.drop_zero,Tr.allK,Bool.and_eq_true,beq_iff_eq] at h2
   have:Tr.isE ns x=false:=by unfold Tr.isE;rw [h2.1];rfl
   simp [Tr.firsts,this]
  | p+1,hp =>
   simp only [List.take_succ_cons,Tr.allK,Bool.and_eq_true] at h1
   have h3:Tr.isE ns x=true:=h1.1
   have:=ih p (by simpa using hp) h1.2 (by simpa using h2)
   simp [Tr.firsts,h3,this];omega
theorem Tr.tw_named (ns:List Tr.Nd) (hs:List Nat) (ls:List Nat):((ls.map (Tr.G ns hs)).takeWhile fun g=>g.nd.kind != 18).length=(ls.takeWhile fun x=>Tr.kindOf ns x != 18).length:=by
 induction ls with
 | nil=>rfl
 | cons x r ih =>
  simp only [List.map_cons,List.takeWhile_cons,Tr.G_kind]
  cases (Tr.kindOf ns x != 18)
  ·rfl
  ·simp [ih]
theorem Tr.tw_eq (ns:List Tr.Nd) (ls:List Nat) (p:Nat) (hp:p≤ls.length) (h1:Tr.allK ns (fun k=>Tr.inr k 1 16) (ls.take p)=true) (h2:Tr.allK ns (fun k=>k == 18) (ls.drop p)=true):(ls.takeWhile fun x=>Tr.kindOf ns x != 18).length=p:=by
 induction ls generalizing p with
 | nil=>simp at hp;subst hp;rfl
 | cons x r ih =>
  match p,hp with
  | 0,_ =>
   simp only [List.drop_zero,Tr.allK,Bool.and_eq_true,beq_iff_eq] at h2
   simp [h2.1]
  | p+1,hp =>
   simp only [List.take_succ_cons,Tr.allK,Bool.and_eq_true] at h1
   have:=ih p (by simpa using hp) h1.2 (by simpa using h2)
   have h3:(Tr.kindOf ns x != 18)=true:=by
    have:=Tr.inr_true h1.1
    rw [bne_iff_ne];omega
   simp [h3,this]
theorem Tr.call_ok (ns:List Tr.Nd) (hs:List Nat) (ls:List Nat) (hin:∀ x∈ls,x < ns.length) (h1:1≤ls.length) :
  (Tr.between 1 16 ((ls.map (Tr.G ns hs)).take (Tr.plainN (ls.map (Tr.G ns hs)))) && Tr.between 18 18 ((ls.map (Tr.G ns hs)).drop (Tr.plainN (ls.map (Tr.G ns hs)))) && Tr.differ ((ls.map (Tr.G ns hs)).drop (Tr.plainN (ls.map (Tr.G ns hs))))) =
  (Tr.allK ns (fun x=>x == 18) (ls.drop (Tr.firsts ns ls)) && decide (1≤(Tr.firsts ns ls:Int)) && Tr.apart ns (ls.drop (Tr.firsts ns ls))):=by
 obtain ⟨x,r,rfl⟩:∃ x r,ls=x :: r:=by
  cases ls with
  | nil=>simp at h1
  | cons x r=>exact ⟨x,r,rfl⟩
 have hP:Tr.plainN ((x :: r).map (Tr.G ns hs))=1+(r.takeWhile fun x=>Tr.kindOf ns x != 18).length:=by
  unfold Tr.plainN
  rw [List.map_cons,List.drop_one,List.tail_cons,Tr.tw_named]
 rw [hP,← List.map_take,← List.map_drop]
 generalize hq:(r.takeWhile fun x=>Tr.kindOf ns x != 18).length=q
 have hqr:q≤r.length:=by rw [← hq];exact (List.takeWhile_sublist _).length_le
 rw [Tr.between_G ns hs 1 16 _ (fun k=>Tr.inr k 1 16) (fun k=>Tr.inr_dec k 1 16),Tr.between_1,Tr.differ_G ns hs _ (fun y hy=>hin y (List.mem_of_mem_drop hy))]
 rw [Bool.eq_iff_iff]
 simp only [Bool.and_eq_true,decide_eq_true_iff]
 constructor
 ·rintro ⟨⟨a,b⟩,c⟩
  have e:=Tr.firsts_eq ns (x :: r) (1+q) (by simp;omega) a b
  rw [e]
  exact ⟨⟨b,by omega⟩,c⟩
 ·rintro ⟨⟨a,b⟩,c⟩
  have hf:=Tr.firsts_le ns (x :: r)
  have ht:=Tr.firsts_take ns (x :: r)
  have e:1+q=Tr.firsts ns (x :: r):=by
   obtain ⟨f,hf1⟩:∃ f,Tr.firsts ns (x :: r)=f+1:=⟨Tr.firsts ns (x :: r) - 1,by omega⟩
   rw [hf1] at ht a hf
   simp only [List.take_succ_cons,Tr.allK,Bool.and_eq_true] at ht
   have:=Tr.tw_eq ns r f (by simpa using hf) ht.2 (by simpa using a)
   omega
  rw [e]
  exact ⟨⟨ht,a⟩,c⟩
theorem Tr.last_ok (ns:List Tr.Nd) (hs:List Nat) (ls:List Nat) (h1:1≤ls.length) :
  (Tr.between 19 19 ((ls.map (Tr.G ns hs)).take (ls.length - 1)) && Tr.between 1 16 ((ls.map (Tr.G ns hs)).drop (ls.length - 1))) =
  (Tr.allK ns (fun x=>x == 19) ls.dropLast && (ls.getLast?.map (Tr.isE ns) == some true)):=by
 have hne:ls≠[]:=by intro e;simp [e] at h1
 have e1:ls.take (ls.length - 1)=ls.dropLast:=(List.dropLast_eq_take).symm
 have e2:ls.drop (ls.length - 1)=[ls.getLast hne]:=by
  rw [List.drop_eq_getElem_cons (by omega),List.drop_of_length_le (by omega),List.getLast_eq_getElem]
 rw [← List.map_take,← List.map_drop,e1,e2,Tr.between_1,Tr.between_G ns hs 1 16 _ (fun k=>Tr.inr k 1 16) (fun k=>Tr.inr_dec k 1 16),List.getLast?_eq_some_getLast hne]
 congr 1
 simp only [Tr.allK,Bool.and_true,Option.map_some]
 unfold Tr.isE
 cases Tr.inr (Tr.kindOf ns (ls.getLast hne)) 1 16 <;> rfl
set_option maxHeartbeats 1000000 in
theorem Tr.ok_eq (ns:List Tr.Nd) (hs:List Nat) (k:Int) (ls:List Nat) (hin:∀ x∈ls,x < ns.length):(Tr.count k ls.length && Tr.fits k (ls.map (Tr.G ns hs)))=Tr.kidsOk ns k ls:=by
 have he:=Tr.esOf_le ns ls
 by_cases h9:k=9
 ·subst h9
  have c:Tr.count 9 ls.length=decide (0≤(ls.length:Int)∧(ls.length:Int)≤200):=rfl
  have f:Tr.fits 9 (ls.map (Tr.G ns hs))=(Tr.between 17 17 (ls.map (Tr.G ns hs)) && Tr.differ (ls.map (Tr.G ns hs))):=rfl
  have g:Tr.kidsOk ns 9 ls=(Tr.allK ns (fun x=>x == 17) ls && decide ((ls.length:Int)≤200) && Tr.apart ns ls):=rfl
  rw [c,f,g,Tr.between_1,Tr.differ_G ns hs ls hin]
  rw [Bool.eq_iff_iff];simp;grind
 by_cases h12:k=12
 ·subst h12
  have c:Tr.count 12 ls.length=decide (1≤(ls.length:Int)∧(ls.length:Int)≤9):=rfl
  have g:Tr.kidsOk ns 12 ls=(Tr.allK ns (fun x=>x == 18) (ls.drop (Tr.firsts ns ls)) && decide (1≤(Tr.firsts ns ls:Int)) && decide ((ls.length:Int) - 1≤8) && Tr.apart ns (ls.drop (Tr.firsts ns ls))):=rfl
  have hf:=Tr.firsts_le ns ls
  by_cases h1:1≤ls.length
  ·have q:=Tr.call_ok ns hs ls hin h1
   have f:Tr.fits 12 (ls.map (Tr.G ns hs))=(Tr.between 1 16 ((ls.map (Tr.G ns hs)).take (Tr.plainN (ls.map (Tr.G ns hs)))) && Tr.between 18 18 ((ls.map (Tr.G ns hs)).drop (Tr.plainN (ls.map (Tr.G ns hs)))) && Tr.differ ((ls.map (Tr.G ns hs)).drop (Tr.plainN (ls.map (Tr.G ns hs))))):=rfl
   rw [c,f,g,q]
   have e1:decide (1≤(ls.length:Int)∧(ls.length:Int)≤9)=decide ((ls.length:Int) - 1≤8):=by rw [Bool.eq_iff_iff];simp;omega
   rw [e1]
   cases decide ((ls.length:Int) - 1≤8) <;> simp
  ·have e1:decide (1≤(ls.length:Int)∧(ls.length:Int)≤9)=false:=by simp;omega
   have e2:decide (1≤(Tr.firsts ns ls:Int))=false:=by simp;omega
   rw [c,g,e1,e2];simp
 by_cases h15:k=15∨k=20
 ·have c:Tr.count k ls.length=decide (1≤(ls.length:Int)∧(ls.length:Int)≤9):=by rcases h15 with rfl | rfl <;> rfl
  have g:Tr.kidsOk ns k ls=(Tr.allK ns (fun x=>x == 19) ls.dropLast && (ls.getLast?.map (Tr.isE ns) == some true) && decide ((ls.length:Int) - 1≤8)):=by rcases h15 with rfl | rfl <;> rfl
  have f:Tr.fits k (ls.map (Tr.G ns hs))=(Tr.between 19 19 ((ls.map (Tr.G ns hs)).take ((ls.map (Tr.G ns hs)).length - 1)) && Tr.between 1 16 ((ls.map (Tr.G ns hs)).drop ((ls.map (Tr.G ns hs)).length - 1))):=by rcases h15 with rfl | rfl <;> rfl
  rw [List.length_map] at f
  by_cases h1:1≤ls.length
  ·rw [c,f,g,Tr.last_ok ns hs ls h1]
   have e1:decide (1≤(ls.length:Int)∧(ls.length:Int)≤9)=decide ((ls.length:Int) - 1≤8):=by rw [Bool.eq_iff_iff];simp;omega
   rw [e1]
   cases decide ((ls.length:Int) - 1≤8) <;> simp
  ·have e1:decide (1≤(ls.length:Int)∧(ls.length:Int)≤9)=false:=by simp;omega
   have e0:ls=[]:=List.eq_nil_of_length_eq_zero (by omega)
   rw [c,g,e1,e0];simp
 by_cases h23:k=23
 ·subst h23
  have c:Tr.count 23 ls.length=decide (1≤(ls.length:Int)∧(ls.length:Int)≤200):=rfl
  have f:Tr.fits 23 (ls.map (Tr.G ns hs))=Tr.between 5 5 (ls.map (Tr.G ns hs)):=rfl
  have g:Tr.kidsOk ns 23 ls=(Tr.allK ns (fun x=>x == 5) ls && Tr.inr ls.length 1 200):=rfl
  rw [c,f,g,Tr.between_1,Tr.inr_dec,Bool.decide_and,Bool.and_comm]
 by_cases h24:k=24
 ·subst h24
  have c:Tr.count 24 ls.length=decide (0≤(ls.length:Int)∧(ls.length:Int)≤200):=rfl
  have f:Tr.fits 24 (ls.map (Tr.G ns hs))=Tr.between 20 23 (ls.map (Tr.G ns hs)):=rfl
  have g:Tr.kidsOk ns 24 ls=(Tr.allK ns (fun x=>Tr.inr x 20 23) ls && decide ((ls.length:Int)≤200)):=rfl
  rw [c,f,g,Tr.between_G ns hs 20 23 _ (fun k=>Tr.inr k 20 23) (fun k=>Tr.inr_dec k 20 23)]
  rw [Bool.eq_iff_iff];simp;grind
 have f:Tr.fits k (ls.map (Tr.G ns hs))=decide (Tr.esOf ns ls=ls.length):=by
  unfold Tr.fits
  rw [if_neg h9,if_neg h12,if_neg h15,if_neg h23,if_neg h24,Tr.between_E]
 rw [f]
 unfold Tr.count Tr.kidsOk
 simp only [h9,h12,h23,h24,if_false,false_or,or_false]
 have h15':=not_or.1 h15
 simp only [h15'.1,h15'.2,if_false,or_self]
 by_cases a1:k=1∨k=2∨k=3∨k=4∨k=5
 ·simp only [a1,if_true];rw [Bool.eq_iff_iff];simp only [Bool.and_eq_true,decide_eq_true_iff];omega
 simp only [a1,if_false]
 by_cases a2:k=6∨k=11∨k=17∨k=18∨k=21∨k=22
 ·simp only [a2,if_true];rw [Bool.eq_iff_iff];simp only [Bool.and_eq_true,decide_eq_true_iff];omega
 simp only [a2,if_false]
 by_cases a3:k=7∨k=10∨k=14
 ·simp only [a3,if_true];rw [Bool.eq_iff_iff];simp only [Bool.and_eq_true,decide_eq_true_iff];omega
 simp only [a3,if_false]
 by_cases a4:k=13
 ·simp only [a4,if_true];rw [Bool.eq_iff_iff];simp only [Bool.and_eq_true,decide_eq_true_iff];omega
 simp only [a4,if_false]
 by_cases a5:k=16
 ·simp only [a5,if_true];rw [Bool.eq_iff_iff];simp only [Bool.and_eq_true,decide_eq_true_iff];omega
 simp only [a5,if_false]
 by_cases a6:k=19
 ·simp only [a6,if_true];rw [Bool.eq_iff_iff];simp only [Bool.and_eq_true,decide_eq_true_iff];omega
 simp only [a6,if_false]
 by_cases a7:k=8
 ·simp only [a7,if_true];rw [Bool.eq_iff_iff];simp only [Bool.and_eq_true,decide_eq_true_iff];omega
 simp only [a7,if_false]
 rw [Bool.eq_iff_iff];simp only [Bool.and_eq_true,decide_eq_true_iff,Bool.false_eq_true,iff_false];omega
end Go.Proofs.YthbojbbmpcmoaaaGreatDoor
