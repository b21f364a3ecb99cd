/- FlagsGrants (watchword): for every input the call returns true and the input reads as it did; where the tables that it reads hold what the program's text lays there. -/
import Derived.Test.YtkmgimkbcnmjmaaDoorSymD
import Derived.Test.YtkmgimkbcnmjmaaDoorChecked
import Derived.Test.YtkmgimkbcnmjmaaDoorRows
import Derived.Test.YtkmgimkbcnmjmaaDoorTie
import Derived.Test.YtkmgimkbcnmjmaaDoorCards
import Derived.WalkKit
import Derived.ProofKit
import Derived.OpenShut
import Derived.ShutString
import Derived.HandedShaped
import Derived.LaidMore
import Derived.Lay
import Derived.Stop.Joined
import Derived.SevenTiedAt
import Derived.Test.YtkmgimkbcnmjmaaDoorKnown2
import Derived.Test.YtkmgimkbcnmjmaaDoorFlagsGrantsR0
import Derived.Test.YtkmgimkbcnmjmaaDoorFlagsGrantsR1
import Derived.Test.YtkmgimkbcnmjmaaDoorFlagsGrantsR2
import Derived.Test.YtkmgimkbcnmjmaaDoorFlagsGrantsR3
import Derived.Test.YtkmgimkbcnmjmaaDoorFlagsGrantsR4
import Derived.Test.YtkmgimkbcnmjmaaDoorFlagsGrantsR5
import Derived.Test.YtkmgimkbcnmjmaaDoorFlagsGrantsR6
import Derived.Test.YtkmgimkbcnmjmaaDoorFlagsGrantsR7
import Derived.Test.YtkmgimkbcnmjmaaDoorFlagsGrantsR8
import Derived.Test.YtkmgimkbcnmjmaaDoorFlagsGrantsR9
import Derived.Test.YtkmgimkbcnmjmaaDoorFlagsGrantsR10
import Derived.Test.YtkmgimkbcnmjmaaDoorFlagsGrantsR11
import Derived.Test.YtkmgimkbcnmjmaaDoorFlagsGrantsR12
import Derived.Test.YtkmgimkbcnmjmaaDoorFlagsGrantsR13
import Derived.Test.YtkmgimkbcnmjmaaDoorFlagsGrantsR14
import Derived.Test.YtkmgimkbcnmjmaaDoorFlagsGrantsR15
import Derived.Test.YtkmgimkbcnmjmaaDoorFlagsGrantsR16
import Derived.Test.YtkmgimkbcnmjmaaDoorFlagsGrantsR17
import Derived.Test.YtkmgimkbcnmjmaaDoorFlagsGrantsR18
import Derived.Test.YtkmgimkbcnmjmaaDoorFlagsGrantsR19
import Derived.Test.YtkmgimkbcnmjmaaDoorFlagsGrantsR20
import Derived.Test.YtkmgimkbcnmjmaaDoorFlagsGrantsR21
namespace Go.Proofs.YtkmgimkbcnmjmaaDoor.flagsGrants
open Go.ChangeShapes Go.WideShapes Go.ChangeAt Go.RowKit
set_option linter.unusedVariables false

theorem own : ownKnob Tryd.prog.godebug = none := by kernel_rfl
theorem mixed : Tryd.prog.follows .mixedOrders = true := by kernel_rfl
theorem laidOut : laidOutB Tryd.prog = true := by kernel_rfl
theorem args : Sim.argsA Tryd.prog Tryd.f8.params.toList = some shp := by kernel_rfl
theorem all61 : Sim.AllRun Tryd.prog [] 8 9000 inp k61 s61 := run61
theorem all63 : Sim.AllRun Tryd.prog [] 8 9000 inp k63 s63 := run63
theorem all68 : Sim.AllRun Tryd.prog [] 8 9000 inp k68 s68 := run68
theorem all69 : Sim.AllRun Tryd.prog [] 8 9000 inp k69 s69 := run69
theorem all67 : Sim.AllRun Tryd.prog [] 8 9000 inp k67 s67 := by
  have ha := all68
  have hb := all69
  rw [← up67] at ha
  rw [← un67] at hb
  exact ⟨ha, hb⟩
theorem all71 : Sim.AllRun Tryd.prog [] 8 9000 inp k71 s71 := run71
theorem all72 : Sim.AllRun Tryd.prog [] 8 9000 inp k72 s72 := run72
theorem all70 : Sim.AllRun Tryd.prog [] 8 9000 inp k70 s70 := by
  have ha := all71
  have hb := all72
  rw [← up70] at ha
  rw [← un70] at hb
  exact ⟨ha, hb⟩
theorem all66 : Sim.AllRun Tryd.prog [] 8 9000 inp k66 s66 := by
  have ha := all67
  have hb := all70
  rw [← up66] at ha
  rw [← un66] at hb
  exact ⟨ha, hb⟩
theorem all75 : Sim.AllRun Tryd.prog [] 8 9000 inp k75 s75 := run75
theorem all76 : Sim.AllRun Tryd.prog [] 8 9000 inp k76 s76 := run76
theorem all74 : Sim.AllRun Tryd.prog [] 8 9000 inp k74 s74 := by
  have ha := all75
  have hb := all76
  rw [← up74] at ha
  rw [← un74] at hb
  exact ⟨ha, hb⟩
theorem all78 : Sim.AllRun Tryd.prog [] 8 9000 inp k78 s78 := run78
theorem all79 : Sim.AllRun Tryd.prog [] 8 9000 inp k79 s79 := run79
theorem all77 : Sim.AllRun Tryd.prog [] 8 9000 inp k77 s77 := by
  have ha := all78
  have hb := all79
  rw [← up77] at ha
  rw [← un77] at hb
  exact ⟨ha, hb⟩
theorem all73 : Sim.AllRun Tryd.prog [] 8 9000 inp k73 s73 := by
  have ha := all74
  have hb := all77
  rw [← up73] at ha
  rw [← un73] at hb
  exact ⟨ha, hb⟩
theorem all65 : Sim.AllRun Tryd.prog [] 8 9000 inp k65 s65 := by
  have ha := all66
  have hb := all73
  rw [← up65] at ha
  rw [← un65] at hb
  exact ⟨ha, hb⟩
theorem all83 : Sim.AllRun Tryd.prog [] 8 9000 inp k83 s83 := run83
theorem all84 : Sim.AllRun Tryd.prog [] 8 9000 inp k84 s84 := run84
theorem all82 : Sim.AllRun Tryd.prog [] 8 9000 inp k82 s82 := by
  have ha := all83
  have hb := all84
  rw [← up82] at ha
  rw [← un82] at hb
  exact ⟨ha, hb⟩
theorem all86 : Sim.AllRun Tryd.prog [] 8 9000 inp k86 s86 := run86
theorem all87 : Sim.AllRun Tryd.prog [] 8 9000 inp k87 s87 := run87
theorem all85 : Sim.AllRun Tryd.prog [] 8 9000 inp k85 s85 := by
  have ha := all86
  have hb := all87
  rw [← up85] at ha
  rw [← un85] at hb
  exact ⟨ha, hb⟩
theorem all81 : Sim.AllRun Tryd.prog [] 8 9000 inp k81 s81 := by
  have ha := all82
  have hb := all85
  rw [← up81] at ha
  rw [← un81] at hb
  exact ⟨ha, hb⟩
theorem all90 : Sim.AllRun Tryd.prog [] 8 9000 inp k90 s90 := run90
theorem all91 : Sim.AllRun Tryd.prog [] 8 9000 inp k91 s91 := run91
theorem all89 : Sim.AllRun Tryd.prog [] 8 9000 inp k89 s89 := by
  have ha := all90
  have hb := all91
  rw [← up89] at ha
  rw [← un89] at hb
  exact ⟨ha, hb⟩
theorem all93 : Sim.AllRun Tryd.prog [] 8 9000 inp k93 s93 := run93
theorem all94 : Sim.AllRun Tryd.prog [] 8 9000 inp k94 s94 := run94
theorem all92 : Sim.AllRun Tryd.prog [] 8 9000 inp k92 s92 := by
  have ha := all93
  have hb := all94
  rw [← up92] at ha
  rw [← un92] at hb
  exact ⟨ha, hb⟩
theorem all88 : Sim.AllRun Tryd.prog [] 8 9000 inp k88 s88 := by
  have ha := all89
  have hb := all92
  rw [← up88] at ha
  rw [← un88] at hb
  exact ⟨ha, hb⟩
theorem all80 : Sim.AllRun Tryd.prog [] 8 9000 inp k80 s80 := by
  have ha := all81
  have hb := all88
  rw [← up80] at ha
  rw [← un80] at hb
  exact ⟨ha, hb⟩
theorem all64 : Sim.AllRun Tryd.prog [] 8 9000 inp k64 s64 := by
  have ha := all65
  have hb := all80
  rw [← up64] at ha
  rw [← un64] at hb
  exact ⟨ha, hb⟩
theorem all62 : Sim.AllRun Tryd.prog [] 8 9000 inp k62 s62 := by
  have ha := all63
  have hb := all64
  rw [← up62] at ha
  rw [← un62] at hb
  exact ⟨ha, hb⟩
theorem all60 : Sim.AllRun Tryd.prog [] 8 9000 inp k60 s60 := by
  have ha := all61
  have hb := all62
  rw [← up60] at ha
  rw [← un60] at hb
  exact ⟨ha, hb⟩
theorem all95 : Sim.AllRun Tryd.prog [] 8 9000 inp k95 s95 := run95
theorem all59 : Sim.AllRun Tryd.prog [] 8 9000 inp k59 s59 := by
  have ha := all60
  have hb := all95
  rw [← up59] at ha
  rw [← un59] at hb
  exact ⟨ha, hb⟩
theorem all96 : Sim.AllRun Tryd.prog [] 8 9000 inp k96 s96 := run96
theorem all58 : Sim.AllRun Tryd.prog [] 8 9000 inp k58 s58 := by
  have ha := all59
  have hb := all96
  rw [← up58] at ha
  rw [← un58] at hb
  exact ⟨ha, hb⟩
theorem all97 : Sim.AllRun Tryd.prog [] 8 9000 inp k97 s97 := run97
theorem all57 : Sim.AllRun Tryd.prog [] 8 9000 inp k57 s57 := by
  have ha := all58
  have hb := all97
  rw [← up57] at ha
  rw [← un57] at hb
  exact ⟨ha, hb⟩
theorem all98 : Sim.AllRun Tryd.prog [] 8 9000 inp k98 s98 := run98
theorem all56 : Sim.AllRun Tryd.prog [] 8 9000 inp k56 s56 := by
  have ha := all57
  have hb := all98
  rw [← up56] at ha
  rw [← un56] at hb
  exact ⟨ha, hb⟩
theorem all99 : Sim.AllRun Tryd.prog [] 8 9000 inp k99 s99 := run99
theorem all55 : Sim.AllRun Tryd.prog [] 8 9000 inp k55 s55 := by
  have ha := all56
  have hb := all99
  rw [← up55] at ha
  rw [← un55] at hb
  exact ⟨ha, hb⟩
theorem all100 : Sim.AllRun Tryd.prog [] 8 9000 inp k100 s100 := run100
theorem all54 : Sim.AllRun Tryd.prog [] 8 9000 inp k54 s54 := by
  have ha := all55
  have hb := all100
  rw [← up54] at ha
  rw [← un54] at hb
  exact ⟨ha, hb⟩
theorem all101 : Sim.AllRun Tryd.prog [] 8 9000 inp k101 s101 := run101
theorem all53 : Sim.AllRun Tryd.prog [] 8 9000 inp k53 s53 := by
  have ha := all54
  have hb := all101
  rw [← up53] at ha
  rw [← un53] at hb
  exact ⟨ha, hb⟩
theorem all102 : Sim.AllRun Tryd.prog [] 8 9000 inp k102 s102 := run102
theorem all52 : Sim.AllRun Tryd.prog [] 8 9000 inp k52 s52 := by
  have ha := all53
  have hb := all102
  rw [← up52] at ha
  rw [← un52] at hb
  exact ⟨ha, hb⟩
theorem all103 : Sim.AllRun Tryd.prog [] 8 9000 inp k103 s103 := run103
theorem all51 : Sim.AllRun Tryd.prog [] 8 9000 inp k51 s51 := by
  have ha := all52
  have hb := all103
  rw [← up51] at ha
  rw [← un51] at hb
  exact ⟨ha, hb⟩
theorem all104 : Sim.AllRun Tryd.prog [] 8 9000 inp k104 s104 := run104
theorem all50 : Sim.AllRun Tryd.prog [] 8 9000 inp k50 s50 := by
  have ha := all51
  have hb := all104
  rw [← up50] at ha
  rw [← un50] at hb
  exact ⟨ha, hb⟩
theorem all105 : Sim.AllRun Tryd.prog [] 8 9000 inp k105 s105 := run105
theorem all49 : Sim.AllRun Tryd.prog [] 8 9000 inp k49 s49 := by
  have ha := all50
  have hb := all105
  rw [← up49] at ha
  rw [← un49] at hb
  exact ⟨ha, hb⟩
theorem all106 : Sim.AllRun Tryd.prog [] 8 9000 inp k106 s106 := run106
theorem all48 : Sim.AllRun Tryd.prog [] 8 9000 inp k48 s48 := by
  have ha := all49
  have hb := all106
  rw [← up48] at ha
  rw [← un48] at hb
  exact ⟨ha, hb⟩
theorem all107 : Sim.AllRun Tryd.prog [] 8 9000 inp k107 s107 := run107
theorem all47 : Sim.AllRun Tryd.prog [] 8 9000 inp k47 s47 := by
  have ha := all48
  have hb := all107
  rw [← up47] at ha
  rw [← un47] at hb
  exact ⟨ha, hb⟩
theorem all108 : Sim.AllRun Tryd.prog [] 8 9000 inp k108 s108 := run108
theorem all46 : Sim.AllRun Tryd.prog [] 8 9000 inp k46 s46 := by
  have ha := all47
  have hb := all108
  rw [← up46] at ha
  rw [← un46] at hb
  exact ⟨ha, hb⟩
theorem all109 : Sim.AllRun Tryd.prog [] 8 9000 inp k109 s109 := run109
theorem all45 : Sim.AllRun Tryd.prog [] 8 9000 inp k45 s45 := by
  have ha := all46
  have hb := all109
  rw [← up45] at ha
  rw [← un45] at hb
  exact ⟨ha, hb⟩
theorem all110 : Sim.AllRun Tryd.prog [] 8 9000 inp k110 s110 := run110
theorem all44 : Sim.AllRun Tryd.prog [] 8 9000 inp k44 s44 := by
  have ha := all45
  have hb := all110
  rw [← up44] at ha
  rw [← un44] at hb
  exact ⟨ha, hb⟩
theorem all111 : Sim.AllRun Tryd.prog [] 8 9000 inp k111 s111 := run111
theorem all43 : Sim.AllRun Tryd.prog [] 8 9000 inp k43 s43 := by
  have ha := all44
  have hb := all111
  rw [← up43] at ha
  rw [← un43] at hb
  exact ⟨ha, hb⟩
theorem all112 : Sim.AllRun Tryd.prog [] 8 9000 inp k112 s112 := run112
theorem all42 : Sim.AllRun Tryd.prog [] 8 9000 inp k42 s42 := by
  have ha := all43
  have hb := all112
  rw [← up42] at ha
  rw [← un42] at hb
  exact ⟨ha, hb⟩
theorem all113 : Sim.AllRun Tryd.prog [] 8 9000 inp k113 s113 := run113
theorem all41 : Sim.AllRun Tryd.prog [] 8 9000 inp k41 s41 := by
  have ha := all42
  have hb := all113
  rw [← up41] at ha
  rw [← un41] at hb
  exact ⟨ha, hb⟩
theorem all114 : Sim.AllRun Tryd.prog [] 8 9000 inp k114 s114 := run114
theorem all40 : Sim.AllRun Tryd.prog [] 8 9000 inp k40 s40 := by
  have ha := all41
  have hb := all114
  rw [← up40] at ha
  rw [← un40] at hb
  exact ⟨ha, hb⟩
theorem all115 : Sim.AllRun Tryd.prog [] 8 9000 inp k115 s115 := run115
theorem all39 : Sim.AllRun Tryd.prog [] 8 9000 inp k39 s39 := by
  have ha := all40
  have hb := all115
  rw [← up39] at ha
  rw [← un39] at hb
  exact ⟨ha, hb⟩
theorem all116 : Sim.AllRun Tryd.prog [] 8 9000 inp k116 s116 := run116
theorem all38 : Sim.AllRun Tryd.prog [] 8 9000 inp k38 s38 := by
  have ha := all39
  have hb := all116
  rw [← up38] at ha
  rw [← un38] at hb
  exact ⟨ha, hb⟩
theorem all117 : Sim.AllRun Tryd.prog [] 8 9000 inp k117 s117 := run117
theorem all37 : Sim.AllRun Tryd.prog [] 8 9000 inp k37 s37 := by
  have ha := all38
  have hb := all117
  rw [← up37] at ha
  rw [← un37] at hb
  exact ⟨ha, hb⟩
theorem all118 : Sim.AllRun Tryd.prog [] 8 9000 inp k118 s118 := run118
theorem all36 : Sim.AllRun Tryd.prog [] 8 9000 inp k36 s36 := by
  have ha := all37
  have hb := all118
  rw [← up36] at ha
  rw [← un36] at hb
  exact ⟨ha, hb⟩
theorem all119 : Sim.AllRun Tryd.prog [] 8 9000 inp k119 s119 := run119
theorem all35 : Sim.AllRun Tryd.prog [] 8 9000 inp k35 s35 := by
  have ha := all36
  have hb := all119
  rw [← up35] at ha
  rw [← un35] at hb
  exact ⟨ha, hb⟩
theorem all120 : Sim.AllRun Tryd.prog [] 8 9000 inp k120 s120 := run120
theorem all34 : Sim.AllRun Tryd.prog [] 8 9000 inp k34 s34 := by
  have ha := all35
  have hb := all120
  rw [← up34] at ha
  rw [← un34] at hb
  exact ⟨ha, hb⟩
theorem all121 : Sim.AllRun Tryd.prog [] 8 9000 inp k121 s121 := run121
theorem all33 : Sim.AllRun Tryd.prog [] 8 9000 inp k33 s33 := by
  have ha := all34
  have hb := all121
  rw [← up33] at ha
  rw [← un33] at hb
  exact ⟨ha, hb⟩
theorem all122 : Sim.AllRun Tryd.prog [] 8 9000 inp k122 s122 := run122
theorem all32 : Sim.AllRun Tryd.prog [] 8 9000 inp k32 s32 := by
  have ha := all33
  have hb := all122
  rw [← up32] at ha
  rw [← un32] at hb
  exact ⟨ha, hb⟩
theorem all123 : Sim.AllRun Tryd.prog [] 8 9000 inp k123 s123 := run123
theorem all31 : Sim.AllRun Tryd.prog [] 8 9000 inp k31 s31 := by
  have ha := all32
  have hb := all123
  rw [← up31] at ha
  rw [← un31] at hb
  exact ⟨ha, hb⟩
theorem all124 : Sim.AllRun Tryd.prog [] 8 9000 inp k124 s124 := run124
theorem all30 : Sim.AllRun Tryd.prog [] 8 9000 inp k30 s30 := by
  have ha := all31
  have hb := all124
  rw [← up30] at ha
  rw [← un30] at hb
  exact ⟨ha, hb⟩
theorem all125 : Sim.AllRun Tryd.prog [] 8 9000 inp k125 s125 := run125
theorem all29 : Sim.AllRun Tryd.prog [] 8 9000 inp k29 s29 := by
  have ha := all30
  have hb := all125
  rw [← up29] at ha
  rw [← un29] at hb
  exact ⟨ha, hb⟩
theorem all126 : Sim.AllRun Tryd.prog [] 8 9000 inp k126 s126 := run126
theorem all28 : Sim.AllRun Tryd.prog [] 8 9000 inp k28 s28 := by
  have ha := all29
  have hb := all126
  rw [← up28] at ha
  rw [← un28] at hb
  exact ⟨ha, hb⟩
theorem all127 : Sim.AllRun Tryd.prog [] 8 9000 inp k127 s127 := run127
theorem all27 : Sim.AllRun Tryd.prog [] 8 9000 inp k27 s27 := by
  have ha := all28
  have hb := all127
  rw [← up27] at ha
  rw [← un27] at hb
  exact ⟨ha, hb⟩
theorem all128 : Sim.AllRun Tryd.prog [] 8 9000 inp k128 s128 := run128
theorem all26 : Sim.AllRun Tryd.prog [] 8 9000 inp k26 s26 := by
  have ha := all27
  have hb := all128
  rw [← up26] at ha
  rw [← un26] at hb
  exact ⟨ha, hb⟩
theorem all129 : Sim.AllRun Tryd.prog [] 8 9000 inp k129 s129 := run129
theorem all25 : Sim.AllRun Tryd.prog [] 8 9000 inp k25 s25 := by
  have ha := all26
  have hb := all129
  rw [← up25] at ha
  rw [← un25] at hb
  exact ⟨ha, hb⟩
theorem all130 : Sim.AllRun Tryd.prog [] 8 9000 inp k130 s130 := run130
theorem all24 : Sim.AllRun Tryd.prog [] 8 9000 inp k24 s24 := by
  have ha := all25
  have hb := all130
  rw [← up24] at ha
  rw [← un24] at hb
  exact ⟨ha, hb⟩
theorem all131 : Sim.AllRun Tryd.prog [] 8 9000 inp k131 s131 := run131
theorem all23 : Sim.AllRun Tryd.prog [] 8 9000 inp k23 s23 := by
  have ha := all24
  have hb := all131
  rw [← up23] at ha
  rw [← un23] at hb
  exact ⟨ha, hb⟩
theorem all132 : Sim.AllRun Tryd.prog [] 8 9000 inp k132 s132 := run132
theorem all22 : Sim.AllRun Tryd.prog [] 8 9000 inp k22 s22 := by
  have ha := all23
  have hb := all132
  rw [← up22] at ha
  rw [← un22] at hb
  exact ⟨ha, hb⟩
theorem all133 : Sim.AllRun Tryd.prog [] 8 9000 inp k133 s133 := run133
theorem all21 : Sim.AllRun Tryd.prog [] 8 9000 inp k21 s21 := by
  have ha := all22
  have hb := all133
  rw [← up21] at ha
  rw [← un21] at hb
  exact ⟨ha, hb⟩
theorem all134 : Sim.AllRun Tryd.prog [] 8 9000 inp k134 s134 := run134
theorem all20 : Sim.AllRun Tryd.prog [] 8 9000 inp k20 s20 := by
  have ha := all21
  have hb := all134
  rw [← up20] at ha
  rw [← un20] at hb
  exact ⟨ha, hb⟩
theorem all135 : Sim.AllRun Tryd.prog [] 8 9000 inp k135 s135 := run135
theorem all19 : Sim.AllRun Tryd.prog [] 8 9000 inp k19 s19 := by
  have ha := all20
  have hb := all135
  rw [← up19] at ha
  rw [← un19] at hb
  exact ⟨ha, hb⟩
theorem all136 : Sim.AllRun Tryd.prog [] 8 9000 inp k136 s136 := run136
theorem all18 : Sim.AllRun Tryd.prog [] 8 9000 inp k18 s18 := by
  have ha := all19
  have hb := all136
  rw [← up18] at ha
  rw [← un18] at hb
  exact ⟨ha, hb⟩
theorem all137 : Sim.AllRun Tryd.prog [] 8 9000 inp k137 s137 := run137
theorem all17 : Sim.AllRun Tryd.prog [] 8 9000 inp k17 s17 := by
  have ha := all18
  have hb := all137
  rw [← up17] at ha
  rw [← un17] at hb
  exact ⟨ha, hb⟩
theorem all138 : Sim.AllRun Tryd.prog [] 8 9000 inp k138 s138 := run138
theorem all16 : Sim.AllRun Tryd.prog [] 8 9000 inp k16 s16 := by
  have ha := all17
  have hb := all138
  rw [← up16] at ha
  rw [← un16] at hb
  exact ⟨ha, hb⟩
theorem all139 : Sim.AllRun Tryd.prog [] 8 9000 inp k139 s139 := run139
theorem all15 : Sim.AllRun Tryd.prog [] 8 9000 inp k15 s15 := by
  have ha := all16
  have hb := all139
  rw [← up15] at ha
  rw [← un15] at hb
  exact ⟨ha, hb⟩
theorem all140 : Sim.AllRun Tryd.prog [] 8 9000 inp k140 s140 := run140
theorem all14 : Sim.AllRun Tryd.prog [] 8 9000 inp k14 s14 := by
  have ha := all15
  have hb := all140
  rw [← up14] at ha
  rw [← un14] at hb
  exact ⟨ha, hb⟩
theorem all141 : Sim.AllRun Tryd.prog [] 8 9000 inp k141 s141 := run141
theorem all13 : Sim.AllRun Tryd.prog [] 8 9000 inp k13 s13 := by
  have ha := all14
  have hb := all141
  rw [← up13] at ha
  rw [← un13] at hb
  exact ⟨ha, hb⟩
theorem all142 : Sim.AllRun Tryd.prog [] 8 9000 inp k142 s142 := run142
theorem all12 : Sim.AllRun Tryd.prog [] 8 9000 inp k12 s12 := by
  have ha := all13
  have hb := all142
  rw [← up12] at ha
  rw [← un12] at hb
  exact ⟨ha, hb⟩
theorem all143 : Sim.AllRun Tryd.prog [] 8 9000 inp k143 s143 := run143
theorem all11 : Sim.AllRun Tryd.prog [] 8 9000 inp k11 s11 := by
  have ha := all12
  have hb := all143
  rw [← up11] at ha
  rw [← un11] at hb
  exact ⟨ha, hb⟩
theorem all144 : Sim.AllRun Tryd.prog [] 8 9000 inp k144 s144 := run144
theorem all10 : Sim.AllRun Tryd.prog [] 8 9000 inp k10 s10 := by
  have ha := all11
  have hb := all144
  rw [← up10] at ha
  rw [← un10] at hb
  exact ⟨ha, hb⟩
theorem all145 : Sim.AllRun Tryd.prog [] 8 9000 inp k145 s145 := run145
theorem all9 : Sim.AllRun Tryd.prog [] 8 9000 inp k9 s9 := by
  have ha := all10
  have hb := all145
  rw [← up9] at ha
  rw [← un9] at hb
  exact ⟨ha, hb⟩
theorem all146 : Sim.AllRun Tryd.prog [] 8 9000 inp k146 s146 := run146
theorem all8 : Sim.AllRun Tryd.prog [] 8 9000 inp k8 s8 := by
  have ha := all9
  have hb := all146
  rw [← up8] at ha
  rw [← un8] at hb
  exact ⟨ha, hb⟩
theorem all147 : Sim.AllRun Tryd.prog [] 8 9000 inp k147 s147 := run147
theorem all7 : Sim.AllRun Tryd.prog [] 8 9000 inp k7 s7 := by
  have ha := all8
  have hb := all147
  rw [← up7] at ha
  rw [← un7] at hb
  exact ⟨ha, hb⟩
theorem all148 : Sim.AllRun Tryd.prog [] 8 9000 inp k148 s148 := run148
theorem all6 : Sim.AllRun Tryd.prog [] 8 9000 inp k6 s6 := by
  have ha := all7
  have hb := all148
  rw [← up6] at ha
  rw [← un6] at hb
  exact ⟨ha, hb⟩
theorem all149 : Sim.AllRun Tryd.prog [] 8 9000 inp k149 s149 := run149
theorem all5 : Sim.AllRun Tryd.prog [] 8 9000 inp k5 s5 := by
  have ha := all6
  have hb := all149
  rw [← up5] at ha
  rw [← un5] at hb
  exact ⟨ha, hb⟩
theorem all150 : Sim.AllRun Tryd.prog [] 8 9000 inp k150 s150 := run150
theorem all4 : Sim.AllRun Tryd.prog [] 8 9000 inp k4 s4 := by
  have ha := all5
  have hb := all150
  rw [← up4] at ha
  rw [← un4] at hb
  exact ⟨ha, hb⟩
theorem all151 : Sim.AllRun Tryd.prog [] 8 9000 inp k151 s151 := run151
theorem all3 : Sim.AllRun Tryd.prog [] 8 9000 inp k3 s3 := by
  have ha := all4
  have hb := all151
  rw [← up3] at ha
  rw [← un3] at hb
  exact ⟨ha, hb⟩
theorem all152 : Sim.AllRun Tryd.prog [] 8 9000 inp k152 s152 := run152
theorem all2 : Sim.AllRun Tryd.prog [] 8 9000 inp k2 s2 := by
  have ha := all3
  have hb := all152
  rw [← up2] at ha
  rw [← un2] at hb
  exact ⟨ha, hb⟩
theorem all153 : Sim.AllRun Tryd.prog [] 8 9000 inp k153 s153 := run153
theorem all1 : Sim.AllRun Tryd.prog [] 8 9000 inp k1 s1 := by
  have ha := all2
  have hb := all153
  rw [← up1] at ha
  rw [← un1] at hb
  exact ⟨ha, hb⟩
theorem all154 : Sim.AllRun Tryd.prog [] 8 9000 inp k154 s154 := run154
theorem all0 : Sim.AllRun Tryd.prog [] 8 9000 inp k0 s0 := by
  have ha := all1
  have hb := all154
  rw [← up0] at ha
  rw [← un0] at hb
  exact ⟨ha, hb⟩
theorem runs : Sim.AllRun Tryd.prog [] 8 9000 (Sim.argsV 0 shp) (Sim.factsW shp con [] 3) s0 := by
  rw [inpIs, root]; exact all0
theorem g_unicode_utf8_acceptRanges : Tryd.prog.globalNamed "unicode/utf8.acceptRanges" = some 2 := by kernel_rfl
theorem t_unicode_utf8_acceptRanges : (Tryd.prog.globals[2]?).map (·.type) = some 138 := by kernel_rfl
theorem c_unicode_utf8_acceptRanges : Sim.cellsOfD (H := Unit) Rows.laid_unicode_utf8_acceptRanges = [] := by kernel_rfl
theorem g_unicode_utf8_first : Tryd.prog.globalNamed "unicode/utf8.first" = some 1 := by kernel_rfl
theorem t_unicode_utf8_first : (Tryd.prog.globals[1]?).map (·.type) = some 135 := by kernel_rfl
theorem c_unicode_utf8_first : Tryd.prog.cellsOf 5 = 1 := by kernel_rfl
noncomputable def fx : Sim.Vars := [(1, Sim.cellsOfD (H := Unit) Rows.laid_unicode_utf8_first), (2, Sim.cellsOfD (H := Unit) Rows.laid_unicode_utf8_acceptRanges)]
theorem of_laid {W : World} (h : laidMetH Tryd.prog Rows.flagsGrantsRow.laid W) : Sim.Holds fx W ∧ Tryd.prog.globals.size ≤ W.heap.size := by
  rw [show laidMetH Tryd.prog Rows.flagsGrantsRow.laid W = _ from MakeChecks.laidMetH_plain _ _ _ (by kernel_rfl)] at h
  obtain ⟨ps, ⟨g0, t0, cs0, f0, p0, q0, hg0, ht0, hv0, hd0, ⟨g1, t1, cs1, f1, p1, q1, hg1, ht1, hv1, hd1, _, _⟩, _⟩, _⟩ := h
  obtain rfl := Option.some.inj (g_unicode_utf8_acceptRanges.symm.trans hg0)
  obtain rfl := Option.some.inj (t_unicode_utf8_acceptRanges.symm.trans ht0)
  obtain rfl := Option.some.inj (g_unicode_utf8_first.symm.trans hg1)
  obtain rfl := Option.some.inj (t_unicode_utf8_first.symm.trans ht1)
  have H0 := Sim.holds_var (L := Sim.cellsOfD (H := Unit) Rows.laid_unicode_utf8_acceptRanges) hg0 hv0 (fun o v h => by rw [c_unicode_utf8_acceptRanges] at h; simp at h)
  have H1 := Sim.holds_var hg1 hv1 (Sim.cells_of_ints Tryd.underlying135 Tryd.underlying5 c_unicode_utf8_first hd1)
  refine ⟨fun p hp => ?_, ?_⟩
  · simp only [fx, List.mem_cons, List.not_mem_nil, or_false] at hp
    rcases hp with rfl | rfl
    · exact H1
    · exact H0
  · obtain ⟨c, e, f, h, _⟩ := H0
    exact Sim.size_of_heap h (by have : Tryd.prog.globals.size = 3 := by kernel_rfl
                                 omega)

/-! THE ROW -/
set_option maxRecDepth 100000 in
theorem lifted (os : Os) (started : os.Started) (H : Type) (enc : TypeId × Value → H) :
    ReturnsInHanded {} Tryd.checked os 8 .any (fun w args => (Rows.flagsGrantsSpec.pre enc Tryd.prog Tryd.f8 [] false w args ∧ laidMetH Tryd.prog Rows.flagsGrantsRow.laid w) ∧ sizedMet enc Tryd.prog Tryd.f8 (OpenSpec.ofChange Rows.flagsGrantsSpec) false w args)
      (Rows.flagsGrantsSpec.post enc Tryd.prog Tryd.f8 false true false false) := by
  refine returnsInHanded_of_change_and (C := Tryd.checked) (X := fun w _ => laidMetH Tryd.prog Rows.flagsGrantsRow.laid w) (fun _ _ _ hh h => h.of_heap hh) own started (by kernel_rfl) Tryd.func8
    (ChangeSpec.witness_shaped (enc := enc) (C := Tryd.checked) (os := os) (X := fun w _ => laidMetH Tryd.prog Rows.flagsGrantsRow.laid w) false (World.laidAll Tryd.prog os Rows.flagsGrantsRow.laid) #[.int .u32 0, .int .u32 0, .int .u32 0] 8 (World.laidAll_os _ _ _) (World.shaped_of_ZipB (by kernel_rfl) (by kernel_rfl)) (by kernel_rfl) (by kernel_rfl) (by kernel_rfl) (by rw [MakeChecks.laidMetH_plain _ _ _ (by kernel_rfl)]; exact laidMet_laidAll _ (by kernel_rfl) (by kernel_rfl))) ?_
  intro W base vs ds gs before hval hW _ _ hL _
  obtain ⟨hw, hG⟩ := of_laid hL
  refine Sim.post_of_S (P := Tryd.prog) (fn := Tryd.f8) (s := Rows.flagsGrantsSpec) (fx := []) (con := con) mixed laidOut rfl (by kernel_rfl : Tryd.f8.resultTypes = #[4]) Tryd.underlying4 (by kernel_rfl) rfl ?_ args (by kernel_rfl) runs (fun e he w' hb => ?_) (fun p hp => by cases hp) hG hval hW
  · intro ds hds
    match ds, hds with
    | [d0, d1, d2], _ => rfl
  · simp only [con, List.mem_cons, List.not_mem_nil, or_false] at he
    subst he
    have hwf : Sim.Holds fx w' := fun p hp => by
      obtain ⟨c, e, f, h1, h2⟩ := hw p hp
      exact ⟨c, e, f, by rw [hb.block _ (Array.getElem?_eq_some_iff.1 h1).1]; exact h1, h2⟩
    have hs := hb.size
    refine (known w' hwf (by omega)).mono fun e' w'' ⟨h1, h2⟩ => ⟨_, h1, .bool true, h2⟩

theorem over : Rows.FlagsGrantsSaid :=
  OpenClaim.holds_of_wide 8 Tryd.f8 rfl rfl rfl rfl rfl rfl rfl ⟨rfl, rfl, rfl, rfl, rfl⟩ rfl rfl rfl rfl rfl (by kernel_rfl) Tryd.func8 (by kernel_rfl)
    (of_decide_eq_true (by kernel_rfl)) (by unfold Func.isWrapper; first | (rw [if_pos (by decide +kernel)]; kernel_rfl) | (rw [if_neg (by decide +kernel)]; exact ⟨rfl, rfl⟩))
    (fun os started H enc _ => lifted os started H enc)

/-- THE STATEMENT -/
theorem proved : Rows.FlagsGrantsCardSaid :=
  Claim7.holds_tied_plain_at .later [] [.data, .pinned] true (true, "16a22bbbbf6d938e126787e9323210ff6c2c1b7d9341b1484b251fea3584e2c3") true
    over (fun _ h => by cases h) (by kernel_rfl) (fun _ h => by cases h) flagsGrants_row_tie rfl ⟨rfl, rfl⟩ (by kernel_rfl) rfl
    (fun f fn hf hfn => by
      obtain rfl : f = 8 := Option.some.inj ((show Tryd.prog.funcNamed Rows.flagsGrantsRow.func = some 8 by kernel_rfl).symm.trans hf) |>.symm
      obtain rfl : fn = Tryd.f8 := (Option.some.inj (Tryd.func8.symm.trans hfn)).symm
      exact ⟨by kernel_rfl, fun j t ht => by
        rw [Tryd.params8] at ht
        have hm : t ∈ [22, 22, 22] := by simpa using Array.mem_of_getElem? ht
        have hall : ([22, 22, 22].all fun u => !Tryd.prog.wantsStandIn u) = true := by kernel_rfl
        exact (show Tryd.prog.wantsStandIn t = false by simpa using List.all_eq_true.1 hall t hm)⟩)
    (by kernel_rfl)
#print axioms proved
end Go.Proofs.YtkmgimkbcnmjmaaDoor.flagsGrants
