/- Fo4, Fo8. -/
import Derived.Test.YthbojbbmpcmoaaaGreatDoorZ09
import Derived.Maps.AppendAt
namespace Go.Proofs.YthbojbbmpcmoaaaGreatDoor
open Go.RowKit
theorem one_new (w:World) (v:Value) (t:TypeId) (j:Nat) (u:Value) (h:[v][j]?=some u):(w.alloc (.cells #[v] t)).cell? ((⟨w.heap.size,0,none⟩:Addr).add j)=some u:=by
 cases j with
 | zero =>
  have e:v=u:=by simpa using h
  subst e
  have e2:((⟨w.heap.size,0,none⟩:Addr).add 0)=⟨w.heap.size,0,none⟩:=by simp [Addr.add]
  rw [e2,World.cell?,heap_alloc_new'];rfl
 | succ j=>simp at h
theorem row_posF {w:World} {base:Nat} {e:TypeId} {size n:Nat} {v:Value} {xs:List Value} (h:w.ownsRow base e size v n xs) (hn:0 < n):∃ g c,v = .slice (some ⟨g,0,none⟩) n c:=by
 rcases h.2 with ⟨_,h1⟩ | ⟨g,c,_,h1,_⟩
 ·omega
 ·exact ⟨_,_,h1⟩
theorem row_formF {w:World} {B e size n:Nat} {v:Value} {xs:List Value} (h:w.ownsRow B e size v n xs):∃ p c,v = .slice p n c:=by
 rcases h.2 with ⟨h1,h2⟩ | ⟨g,c,_,h2,_⟩
 ·exact ⟨none,0,by rw [h2];exact h1⟩
 ·exact ⟨_,c,h2⟩
theorem row_cellF {w:World} {B size g c m:Nat} {e:TypeId} {xs:List Value} (h:w.ownsRow B e size (.slice (some ⟨g,0,none⟩) m c) m xs) {j:Nat} {u:Value} (hu:xs[j]?=some u):w.cell? ⟨g,j,none⟩=some u:=by
 have:=h.cells rfl j u hu
 rwa [show ((⟨g,0,none⟩:Addr).add j)=⟨g,j,none⟩ by simp [Addr.add];exact fun h=>h.symm] at this
theorem drewF {w w':World} (h:Below w.drew.heap.size w.drew w'):Below w.heap.size w w':=⟨h.os,h.tape,h.output,h.size,h.block⟩
theorem LnB.end_ {w0:World} {x:Tr.Nd} {p b:Int} {bo:Nat} {done:List Fd} {sl:Value} {ad:List Nat} {w:World} (h:LnB w0 x p b bo done sl ad w):Fd.At (fun q=>w0.heap.size≤q∧q < w.heap.size) w (.mk x p b done) bo :=
 (Fd.at_mk _ _ _ _ _ _ _).2 ⟨sl,ad,h.ln,⟨h.ge,h.ln.lt⟩,row_ownF h.row (fun _ _=>Nat.zero_le _) (fun _ _=>rfl),fun q e=>⟨(h.row.lt q e).1,(h.row.lt q e).2⟩,Fd.atL_go (fun _ e=>⟨e.1,e.2.1⟩) (fun _ _=>rfl) h.kids⟩
theorem LnB.keep6 {w0:World} {x:Tr.Nd} {p b:Int} {bo:Nat} {done:List Fd} {sl:Value} {ad:List Nat} {wr w5 w6:World} {o:Obj} (h:LnB w0 x p b bo done sl ad wr) (hb:Below wr.heap.size wr w5) (hg:(w5.alloc o).grownBy w6 sl.ownBlock):LnAt w6 bo x sl p b:=by
 have h5:=h.below hb
 have hz:(w5.alloc o).heap.size=w5.heap.size+1:=World.size_alloc _ _
 have hl:=h5.ln.lt
 exact ((hg.block bo (by omega) (fun e=>h5.ne e.symm)).trans (((Below.refl w5.heap.size w5).alloc (Nat.le_refl _) o).block bo hl)).trans h5.ln
theorem LnB.cell6 {w0:World} {x:Tr.Nd} {p b:Int} {bo:Nat} {done:List Fd} {sl:Value} {ad:List Nat} {wr w5 w6:World} {o:Obj} (h:LnB w0 x p b bo done sl ad wr) (hb:Below wr.heap.size wr w5) (hg:(w5.alloc o).grownBy w6 sl.ownBlock):w6.cell? ⟨bo,5,none⟩=some sl:=(h.keep6 hb hg).c5
theorem LnB.froz6 {w0:World} {x:Tr.Nd} {p b:Int} {bo:Nat} {done:List Fd} {sl:Value} {ad:List Nat} {wr w5 w6:World} {o:Obj} (h:LnB w0 x p b bo done sl ad wr) (hb:Below wr.heap.size wr w5) (hg:(w5.alloc o).grownBy w6 sl.ownBlock):w6.frozen? ⟨bo,5,none⟩=false:=(h.keep6 hb hg).fr 5
set_option maxRecDepth 100000 in
set_option maxHeartbeats 4000000 in
theorem replace_any (m:Int) (c:Tr.Nd):∀ (n:Nat) (y:Fd),y.size≤n→n≤1000000→∀ (a ca:Nat) (csl:Value) (cp cb:Int) (w:World),Fd.Is w y a→LnAt w ca c csl cp cb→Calls Tryz.prog 33 #[pt a,.int .i64 m,pt ca] w fun e w'=>FdPost w (Fd.repl m c y) e w':=by
 intro n
 induction n with
 | zero=>intro y hy;have:=Fd.size_pos y;omega
 | succ n ih =>
  intro y hy hn a ca csl cp cb w h hc
  obtain ⟨x,p,b,ks⟩:=y
  rw [Fd.size_mk] at hy
  have hs:∀ t∈ks,t.size≤n:=fun t ht=>by have:=Fd.size_mem ht;omega
  obtain ⟨sl,ad,h1,h1b,h2,h2b,h3⟩:=(Fd.at_mk _ _ _ _ _ _ _).1 h
  have hadl:=Fd.atL_len h3
  have hkl:ks.length≤Fd.sizeL ks:=by
   clear h3 h2 hs hy h hadl
   induction ks with
   | nil=>simp
   | cons t r ih=>have:=Fd.size_pos t;rw [Fd.sizeL_cons,List.length_cons];omega
  have HA:=hide h3
  have HR:=hide h2
  have HC:=hide hc
  have HX:=hide h1
  have k0:=h1.c0
  have k7:=h1.c7
  rw [Fd.repl_mk]
  clear h h1 h2 h3 hc h1b h2b
  by_cases h5:x.kind=5∧b=m
  ·rw [if_pos h5]
   obtain ⟨h5,rfl⟩:=h5
   have b5:(x.kind == 5)=true:=by simpa using h5
   have c0:=HC.out.c0
   have c1:=HC.out.c1
   have c2:=HC.out.c2
   have c3:=HC.out.c3
   have c4:=HC.out.c4
   go_enter Tryz.func33,Tryz.ntmps33
   go_wp2
   go_ret
   refine ⟨_,rfl,?_,?_⟩
   ·exact (LnB.new (Below.refl _ _)).end_
   ·exact bA _
  ·rw [if_neg h5]
   obtain ⟨iN,hN,hNz,hNs,hNb⟩:=info_parts infoLn
   obtain ⟨sp,sc,hsl⟩:=row_formF HR.out
   subst hsl
   have c1:=HX.out.c1
   have c2:=HX.out.c2
   have c3:=HX.out.c3
   have c4:=HX.out.c4
   have c6:=HX.out.c6
   have hcase:(x.kind == 5)=false∨((x.kind == 5)=true∧(b == m)=false):=by
    by_cases e:x.kind=5
    ·exact .inr ⟨by simpa using e,by simpa using fun e2=>h5 ⟨e,e2⟩⟩
    ·exact .inl (by simpa using e)
   clear h5
   go_enter Tryz.func33,Tryz.ntmps33
   go_upto_region 1 with fail
   go_cut [22] from 9 to 22 (fun v22 wx=>v22 = .bool false∧wx=w)
   case first =>
    rcases hcase with h5b | ⟨h5b,hbm⟩
    all_goals
     go_wp2_with fail
     go_meet
     case rel=>exact ⟨rfl,rfl⟩
   case rest =>
    obtain ⟨rfl,hwc⟩:=hcut
    have hwc:=hwc.symm
    subst hwc
    go_upto_region 3 with fail
    go_cut [7] from 29 to 42 (fun v7 wx=>∃ bo,v7=pt bo∧LnB w x p b bo [] (.slice none 0 0) [] wx)
    case first =>
     go_region_law (fail)
     all_goals
      go_wp2_with fail
      go_meet
      case rel=>exact ⟨_,rfl,LnB.new (Below.refl _ _).drew⟩
    case rest =>
     obtain ⟨bo,rfl,hln⟩:=hcut
     have HL0:=hide hln
     clear hln k0 k7 c1 c2 c3 c4 c6
     go_wp2_with fail
     go_loopw [8] (fun t wr=>∃ (i:Nat) (sb:Value) (ab:List Nat),i≤ks.length∧t = .int .i64 (i:Int)∧LnB w x p b bo ((ks.take i).map (Fd.repl m c)) sb ab wr) (fun t _=>ks.length - (intOf t).toNat)
     case atStart=>exact ⟨0,_,_,Nat.zero_le _,rfl,HL0.out⟩
     case round =>
      obtain ⟨i,sb,ab,hi,rfl,hL⟩:=hrel
      have HL:=hide hL
      have k5:=(HX.out.below hL.B).c5
      clear hL
      by_cases hlt:i < ks.length
      ·have hlti:(i:Int) < (ks.length:Int):=by omega
       obtain ⟨g,cc,hsl⟩:=row_posF HR.out (by omega)
       cases hsl
       obtain ⟨ai,hai,hta⟩:=Fd.atL_get i HA.out hlt
       have ke:wr.cell? ⟨g,i,none⟩=some (pt ai):=row_cellF (row_below HR.out HL.out.B) (by rw [List.getElem?_map,hai];rfl)
       have hmem:ks[i]∈ks:=List.getElem_mem _
       have HK:=hide (ih ks[i] (hs _ hmem) (by omega) ai ca csl cp cb wr.drew ((Fd.Is.below hta HL.out.B).below (Below.refl _ _).drew) ((HC.out.below HL.out.B).below (Below.refl _ _).drew))
       have b5:=HL.out.ln.c5
       obtain ⟨sbp,sbc,hsb⟩:=row_formF HL.out.row
       have hdl:((ks.take i).map (Fd.repl m c)).length=i:=by rw [List.length_map,List.length_take];omega
       rw [hdl] at hsb
       subst hsb
       go_wp2_with fail
       go_region_law (first
        | (refine step_callF rfl 33 [.tmp 63,.tmp 64,.tmp 65] _ rfl [pt ai,.int .i64 m,pt ca] (by simp [Act.eval]) Tryz.f33 Tryz.func33 (by kernel_rfl) (by kernel_rfl) (fun r w5=>∃ a5,r=pt a5∧Fd.At (fun q=>wr.heap.size≤q∧q < w5.heap.size) w5 (Fd.repl m c ks[i]) a5∧Below wr.heap.size wr w5) (HK.out.mono (fun _ _ ⟨a5,q1,q2,q3⟩=>⟨pt a5,q1,a5,rfl,q2,drewF q3⟩)) ?_;rintro r w5 ⟨a5,rfl,hat5,hb5⟩;have q5:=(HL.out.below hb5).ln.c5;have q5a:=((HL.out.below hb5).below (bA (.cells #[pt a5] 39))).ln.c5)
        | (refine step_append_own rfl (.tmp 56) (.tmp 67) 65 rfl w.heap.size 39 iN _ 1 8 Tryz.underlying65 hN hNz hNs hNb rfl (by decide) (.slice sbp i sbc) i (ab.map pt) (by simp [Act.eval]) (((hdl ▸ (HL.out.below hb5).row)).alloc _) ⟨w5.heap.size,0,none⟩ 1 1 [pt a5] (by simp [Act.eval]) rfl (one_new _ _ _) (by simp [Value.oneCell']) (by unfold maxLen;omega) (by omega) (by have:=(HL.out.below hb5).B.size;simp;omega) ?_;intro v6 w6 hown6 hgrow6 hnil6 hat6;obtain ⟨p6,c6,rfl⟩:=row_formF hown6;have q6:=LnB.cell6 HL.out hb5 hgrow6;have q6f:=LnB.froz6 HL.out hb5 hgrow6))
       all_goals
         have hp:=HL.out.push hb5 hat5 (hdl.symm ▸ hown6) hgrow6 hat6
         have e:(ks.take (i+1)).map (Fd.repl m c)=(ks.take i).map (Fd.repl m c)++[Fd.repl m c ks[i]]:=by rw [List.take_succ_eq_append_getElem hlt,List.map_append];rfl
         rw [← e] at hp
         have HP:=hide hp
         clear hp hgrow6 hown6 hat6 hnil6 hat5 hb5
         go_wp2
         go_roundw
         case rel=>exact ⟨i+1,_,_,by omega,by go_num,HP.out⟩
         case measure=>simp [intOf];omega
      ·obtain rfl:i=ks.length:=by omega
       have hL2:=HL.out
       rw [List.take_length] at hL2
       have HF:=hide hL2
       clear hL2
       go_wp2
       go_ret
       exact ⟨bo,rfl,HF.out.end_,HF.out.B⟩
structure Gw (v v':Value) (w w':World):Prop where
 os:w'.os=w.os
 tape:w'.tape=w.tape
 output:w'.output=w.output
 size:w.heap.size≤w'.heap.size
 block:∀ q,q < w.heap.size→v.ownBlock≠some q→w'.heap[q]?=w.heap[q]?
 own:∀ q,v'.ownBlock=some q→v.ownBlock=some q∨w.heap.size≤q
theorem Gw.refl (v:Value) (w:World):Gw v v w w:=⟨rfl,rfl,rfl,Nat.le_refl _,fun _ _ _=>rfl,fun _ e => .inl e⟩
theorem Gw.trans {v v1 v2:Value} {w w1 w2:World} (a:Gw v v1 w w1) (b:Gw v1 v2 w1 w2):Gw v v2 w w2 :=
 ⟨b.os.trans a.os,b.tape.trans a.tape,b.output.trans a.output,Nat.le_trans a.size b.size,fun q h1 h2=>(b.block q (Nat.lt_of_lt_of_le h1 a.size) (fun e=>(a.own q e).elim (fun e=>h2 e) (fun e=>absurd h1 (Nat.not_lt.2 e)))).trans (a.block q h1 h2),
  fun q e=>(b.own q e).elim (fun e=>a.own q e) (fun e => .inr (Nat.le_trans a.size e))⟩
theorem Gw.of {v:Value} {w w':World} (h:Below w.heap.size w w'):Gw v v w w':=⟨h.os,h.tape,h.output,h.size,fun q h1 _=>h.block q h1,fun _ e => .inl e⟩
theorem Gw.below {v v':Value} {w w':World} {B:Nat} (h:Gw v v' w w') (hv:∀ q,v.ownBlock=some q→B≤q) (hB:B≤w.heap.size):Below B w w' :=
 ⟨h.os,h.tape,h.output,h.size,fun q hq=>h.block q (by omega) (fun e=>absurd hq (Nat.not_lt.2 (hv q e)))⟩
abbrev GAt (v:Value) (w:World) (y:Fd) (a:Nat):Prop:=Fd.At (fun q=>q < w.heap.size∧v.ownBlock≠some q) w y a
theorem GAt.gw {v v':Value} {w w':World} {y:Fd} {a:Nat} (h:GAt v w y a) (g:Gw v v' w w'):GAt v' w' y a :=
 Fd.At.go h (fun q e=>⟨Nat.lt_of_lt_of_le e.1 g.size,fun e2=>(g.own q e2).elim e.2 (fun e3=>absurd e.1 (Nat.not_lt.2 e3))⟩) (fun q e=>g.block q e.1 e.2)
theorem nodesF (l:List Tr.Nd) (x:Tr.Nd):Tr.cellsOf (l++[x])=Tr.cellsOf l++x.cells:=by simp [Tr.cellsOf]
theorem infoNdF:(Tryz.prog.info? 64).map (fun i=>(i.zero,i.size,i.bytes))=some (some (.agg #[.int .i64 0,.int .i64 0,.int .i64 0,.string ⟨#[]⟩,.int .i64 0]),5,48):=by kernel_rfl
abbrev ndO5 (x:Tr.Nd):Obj:= .cells #[.int .i64 x.kind,.int .i64 x.op,.int .i64 x.n,.string x.text,.int .i64 x.kids] 64
theorem cells5F (w:World) (x:Tr.Nd) (j:Nat) (u:Value) (h:x.cells[j]?=some u):(w.alloc (ndO5 x)).cell? ((⟨w.heap.size,0,none⟩:Addr).add j)=some u:=by
 have e:((⟨w.heap.size,0,none⟩:Addr).add j)=⟨w.heap.size,j,none⟩:=by simp [Addr.add];exact fun h=>h.symm
 rw [e,World.cell?,heap_alloc_new']
 show (x.cells.toArray)[j]?=some u
 rw [List.getElem?_toArray];exact h
def GivePost (v:Value) (w:World) (base:Nat) (l:List Tr.Nd) (e:Ending) (w':World):Prop:=∃ v',e = .returned v'∧w'.ownsRow base 64 5 v' l.length (Tr.cellsOf l)∧Gw v v' w w'
theorem Fd.len_size:∀ l:List Fd,l.length≤Fd.sizeL l
 | []=>by simp
 | t :: r=>by have:=Fd.size_pos t;have:=Fd.len_size r;rw [Fd.sizeL_cons,List.length_cons];omega
theorem Fd.giveL_part:∀ (l:List Fd) (i:Nat),(Fd.give.giveL (l.take i)).length+Fd.sizeL (l.drop i)≤Fd.sizeL l
 | [],i=>by simp [Fd.give.giveL]
 | t :: r,0=>by simp [Fd.give.giveL]
 | t :: r,i+1=>by
  have:=Fd.giveL_part r i
  rw [List.take_succ_cons,List.drop_succ_cons,Fd.giveL_cons,Fd.sizeL_cons,List.length_append,Fd.give_len _ t (Nat.le_refl _)]
  omega
set_option maxRecDepth 100000 in
set_option maxHeartbeats 4000000 in
theorem give_any (base:Nat):∀ (n:Nat) (y:Fd),y.size≤n→∀ (a:Nat) (v:Value) (l:List Tr.Nd) (w:World),l.length+y.size≤1000000→GAt v w y a→w.ownsRow base 64 5 v l.length (Tr.cellsOf l)→base≤w.heap.size →
  Calls Tryz.prog 17 #[v,pt a] w fun e w'=>GivePost v w base (l++Fd.give y) e w':=by
 intro n
 induction n with
 | zero=>intro y hy;have:=Fd.size_pos y;omega
 | succ n ih =>
  intro y hy a v l w hl h hr hbase
  obtain ⟨x,p,b,ks⟩:=y
  rw [Fd.size_mk] at hy hl
  have hs:∀ t∈ks,t.size≤n:=fun t ht=>by have:=Fd.size_mem ht;omega
  have HY:=hide h
  have hkl:=Fd.len_size ks
  have HRW:=hide hr
  rw [Fd.give_mk]
  obtain ⟨iN,hN,hNz,hNs,hNb⟩:=info_parts infoNdF
  obtain ⟨sl0,_,h1,_,h2,_⟩:=(Fd.at_mk _ _ _ _ _ _ _).1 h
  obtain ⟨sp,sc,hsl⟩:=row_formF h2
  obtain ⟨vp,vc,hv⟩:=row_formF hr
  have HF:Hid (∀ v' w',Gw v v' w w'→∃ ad,LnAt w' a x (.slice sp ks.length sc) p b∧w'.ownsRow 0 39 1 (.slice sp ks.length sc) ks.length (ad.map pt)∧Fd.At.atL (fun q=>q < w'.heap.size∧v'.ownBlock≠some q) w' ks ad):=hide (fun v' w' g=>by
   obtain ⟨sl,ad,g1,_,g3,_,g5⟩:=(Fd.at_mk _ _ _ _ _ _ _).1 (HY.out.gw g)
   obtain ⟨sl',_,h1',h1b,_,_,_⟩:=(Fd.at_mk _ _ _ _ _ _ _).1 HY.out
   have e1:w'.heap[a]?=w.heap[a]?:=g.block a h1b.1 h1b.2
   have e2:sl = .slice sp ks.length sc:=by
    have:=g1.symm.trans (e1.trans h1)
    unfold lnO at this
    simp only [Option.some.injEq,Obj.cells.injEq] at this
    have h3:=congrArg (fun z=>z[5]?) this.1
    have h4:sl=sl0:=by simpa using h3
    rw [h4,hsl]
   rw [e2] at g1 g3
   exact ⟨ad,g1,g3,g5⟩)
  clear h hr h1 h2
  subst hv
  go_enter Tryz.func17,Tryz.ntmps17
  go_wp2_with fail
  go_loopw [0,5] (fun v' t wr=>∃ i:Nat,i≤ks.length∧t = .int .i64 (i:Int)∧wr.ownsRow base 64 5 v' (l++Fd.give.giveL (ks.take i)).length (Tr.cellsOf (l++Fd.give.giveL (ks.take i)))∧Gw (.slice vp l.length vc) v' w wr) (fun _ t _=>ks.length - (intOf t).toNat)
  case atStart=>exact ⟨0,Nat.zero_le _,rfl,by simpa [Fd.give.giveL] using HRW.out,Gw.refl _ _⟩
  case round =>
   obtain ⟨i,hi,rfl,hro,hg⟩:=hrel
   have HG:=hide hg
   have hlen:(Fd.give.giveL (ks.take i)).length+Fd.sizeL (ks.drop i)≤Fd.sizeL ks:=Fd.giveL_part ks i
   have hLl:(l++Fd.give.giveL (ks.take i)).length+Fd.sizeL (ks.drop i)≤l.length+Fd.sizeL ks:=by rw [List.length_append];omega
   obtain ⟨L,hLe⟩:∃ L,L=l++Fd.give.giveL (ks.take i):=⟨_,rfl⟩
   rw [← hLe] at hro hLl
   have HLE:=hide hLe
   clear hLe hlen
   have HR:=hide hro
   obtain ⟨ad,g1,g3,g5⟩:=HF.out _ _ hg
   have HX:=hide g1
   have HK:=hide g3
   have HA:=hide g5
   have hsz:=hg.size
   have x5:=g1.c5
   clear hg hro g1 g3 g5
   by_cases hlt:i < ks.length
   ·have hlti:(i:Int) < (ks.length:Int):=by omega
    obtain ⟨g,cc,hsl2⟩:=row_posF HK.out (by omega)
    cases hsl2
    obtain ⟨ai,hai,hta⟩:=Fd.atL_get i HA.out hlt
    have ke:wr.cell? ⟨g,i,none⟩=some (pt ai):=row_cellF HK.out (by rw [List.getElem?_map,hai];rfl)
    have hmem:ks[i]∈ks:=List.getElem_mem _
    have hdl:Fd.sizeL (ks.drop i)=ks[i].size+Fd.sizeL (ks.drop (i+1)):=by rw [List.drop_eq_getElem_cons hlt,Fd.sizeL_cons]
    obtain ⟨v'p,v'c,hv'⟩:=row_formF HR.out
    subst hv'
    have HC:=hide (ih ks[i] (hs _ hmem) ai _ L wr (by omega) hta HR.out (by omega))
    go_wp2_with fail
    refine HC.out.mono ?_
    rintro e w5 ⟨v5,rfl,hr5,hg5⟩
    have e5:L++Fd.give ks[i]=l++Fd.give.giveL (ks.take (i+1)):=by
     rw [HLE.out,List.take_succ_eq_append_getElem hlt,Fd.giveL_app,List.append_assoc]
     congr 2
     rw [Fd.giveL_cons];simp [Fd.give.giveL]
    rw [e5] at hr5
    have HR5:=hide hr5
    have HG5:=hide (HG.out.trans hg5)
    clear hr5 hg5 HC
    go_wp2
    go_roundw
    case rel=>exact ⟨i+1,by omega,by go_num,HR5.out,HG5.out⟩
    case measure=>simp [intOf];omega
   ·obtain rfl:i=ks.length:=by omega
    have c0:=HX.out.c0
    have c1:=HX.out.c1
    have c2:=HX.out.c2
    have c3:=HX.out.c3
    have c4:=HX.out.c4
    have x5a:=(HX.out.below (bA (ndO5 x))).c5
    obtain ⟨v'p,v'c,hv'⟩:=row_formF HR.out
    subst hv'
    have hz2:L.length≤1000000:=by omega
    go_wp2_with (at_builtin;refine wpList_append_own_at _ rfl _ _ 26 rfl base 64 iN _ 5 48 Tryz.underlying26 hN hNz hNs hNb rfl (by decide) _ _ _ rfl ((HR.out.alloc _).alloc _) ⟨wr.heap.size+1,0,none⟩ 1 1 ({x with kids:=ks.length}:Tr.Nd).cells rfl rfl ?_ ?_ ?_ ?_ ?_ ?_)
    ·intro j u h
     have:=cells5F (wr.alloc (ndO5 {x with kids:=ks.length})) {x with kids:=ks.length} j u h
     rw [World.size_alloc] at this
     exact this
    ·simp [Tr.Nd.cells,Value.oneCell']
    ·unfold maxLen;omega
    ·omega
    ·simp;omega
    ·intro v6 w6 hown6 hgrow6 hnil6 hat6
     have B0:Below 0 wr w6:=(((Below.refl 0 wr).alloc (Nat.zero_le _) _).alloc (Nat.zero_le _) _).grown hgrow6 (Nat.zero_le _) (fun _ _=>Nat.zero_le _)
     have hz1:∀ (o o2:Obj),((wr.alloc o).alloc o2).heap.size=wr.heap.size+1+1:=fun o o2=>by rw [World.size_alloc,World.size_alloc]
     have hG6:Gw (.slice v'p L.length v'c) v6 wr w6:=by
      refine ⟨B0.os,B0.tape,B0.output,B0.size,fun q h1 h2=>?_,fun q e=>?_⟩
      ·exact (hgrow6.block q (by rw [hz1];omega) (fun e=>h2 e.symm)).trans ((((Below.refl wr.heap.size wr).alloc (Nat.le_refl _) _).alloc (by simp) _).block q h1)
      ·rcases hat6 with e2 | e2
       ·exact .inl (e2 ▸ e)
       ·rw [e2] at e;cases e;exact .inr (by first | omega | (rw [hz1];omega))
     have HF6:=hide (HG.out.trans hG6)
     have er:L++[({x with kids:=ks.length}:Tr.Nd)]=l++(Fd.give.giveL ks++[({x with kids:=ks.length}:Tr.Nd)]):=by rw [HLE.out,List.take_length,List.append_assoc]
     have hro:w6.ownsRow base 64 5 v6 (L++[({x with kids:=ks.length}:Tr.Nd)]).length (Tr.cellsOf (L++[({x with kids:=ks.length}:Tr.Nd)])):=by rw [nodesF,List.length_append];exact hown6
     rw [er] at hro
     have HRO:=hide hro
     clear hro er hG6 B0 hz1 hgrow6 hown6 hnil6 hat6
     go_wp2
     go_ret
     exact ⟨v6,rfl,HRO.out,HF6.out⟩
end Go.Proofs.YthbojbbmpcmoaaaGreatDoor
