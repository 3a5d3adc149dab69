package tables_test

import (
	"strings"

	"liaison/api"
	"liaison/tables"
)

// The chapter's words, read from its own tables: what the package answers is held against them.

// toldCoordinator is the chapter's table of what a coordinator is told.
const toldCoordinator = `
| | Active | Canceling | CancCompl | Completing | Completed | Closing | Compensating | the Failing ones | NotCompleting | Exiting | Ended |
| Exit | Exiting | Exiting | Exiting | Exiting | x | x | x | x | x | - | Exited |
| IsCompleted | of PC Completed, of CC x | of PC Completed, of CC x | Completed | Completed | - | again | again | FailingCompensating: -, others: x | x | x | - |
| Fail | FailingActive | FailingCanceling | FailingCanceling | FailingCompleting | x | x | FailingCompensating | - | x | x | Failed |
| CannotComplete | NotCompleting | NotCompleting | NotCompleting | NotCompleting | x | x | x | x | - | x | NotCompleted |
| Canceled | x | Ended | Ended | x | x | x | x | x | x | x | - |
| Closed | x | x | x | x | x | Ended | x | x | x | x | - |
| Compensated | x | x | x | x | x | x | Ended | x | x | x | - |
`

// toldParticipant is the chapter's table of what a participant is told.
const toldParticipant = `
| | Active | Canceling | Completing | Completed | Closing | Compensating | the Failing ones | NotCompleting | Exiting | Ended |
| Complete (CC) | Completing | - | - | again | - | - | again | again | again | - |
| Close | x | x | x | Closing | - | x | x | x | x | Closed |
| Cancel | Canceling | - | Canceling | again | - | - | again | again | again | Canceled |
| Compensate | x | x | x | Compensating | x | - | FailingCompensating: again, others: x | x | x | Compensated |
| Failed | x | x | x | x | x | x | Ended | x | x | - |
| Exited | x | x | x | x | x | x | x | x | Ended | - |
| NotCompleted | x | x | x | x | x | x | x | Ended | x | - |
`

// doneCoordinator is the chapter's table of what a coordinator may do by itself: a kind, in which states, to which ones.
const doneCoordinator = `
| Complete (CC) | Active | Completing |
| Cancel | Active; Completing | Canceling; CancCompl |
| Close | Completed | Closing |
| Compensate | Completed | Compensating |
| Failed | the Failing ones | Ended |
| Exited | Exiting | Ended |
| NotCompleted | NotCompleting | Ended |
`

// doneParticipant is the chapter's table of what a participant may do by itself.
const doneParticipant = `
| Exit | Active, Completing | Exiting |
| IsCompleted | of PC Active; of CC Completing | Completed |
| Fail | Active; Canceling; Completing; Compensating | FailingActive; FailingCanceling; FailingCompleting; FailingCompensating |
| CannotComplete | Active, Completing | NotCompleting |
| Canceled | Canceling | Ended |
| Closed | Closing | Ended |
| Compensated | Compensating | Ended |
`

// waitsCoordinator and waitsParticipant are what a side waits with, the kind ahead of the states.
const waitsCoordinator = `
| Cancel | Canceling, CancCompl |
| Complete | Completing |
| Close | Closing |
| Compensate | Compensating |
`
const waitsParticipant = `
| IsCompleted | Completed |
| Fail | the Failing ones |
| CannotComplete | NotCompleting |
| Exit | Exiting |
`

// states is the states' numbers, by name.
var states = map[string]int{
	"Active": 1, "Canceling": 2, "CancCompl": 3, "Completing": 4, "Completed": 5, "Closing": 6, "Compensating": 7,
	"FailingActive": 8, "FailingCanceling": 9, "FailingCompleting": 10, "FailingCompensating": 11,
	"NotCompleting": 12, "Exiting": 13, "Ended": 14,
}

// kinds is the numbers of the kinds of messages of the protocols, by name.
var kinds = map[string]int{
	"Exit": 1, "Complete": 2, "IsCompleted": 3, "Fail": 4, "CannotComplete": 5, "Canceled": 6, "Closed": 7,
	"Compensated": 8, "Close": 9, "Cancel": 10, "Compensate": 11, "Failed": 12, "Exited": 13, "NotCompleted": 14,
}

// failing is the names of the Failing ones.
var failing = []string{"FailingActive", "FailingCanceling", "FailingCompleting", "FailingCompensating"}

// sideStates is the chapter's first paragraph: a side's states.
func sideStates(protocol, side int) []int {
	switch {
	case protocol == 1:
		return []int{1, 2, 5, 6, 7, 8, 9, 11, 12, 13, 14}
	case side == 1:
		return []int{1, 2, 3, 4, 5, 6, 7, 8, 9, 10, 11, 12, 13, 14}
	}
	return []int{1, 2, 4, 5, 6, 7, 8, 9, 10, 11, 12, 13, 14}
}

// sideTakes is the kinds that a side is told.
func sideTakes(protocol, side int) []int {
	switch {
	case side == 1:
		return []int{1, 3, 4, 5, 6, 7, 8}
	case protocol == 1:
		return []int{9, 10, 11, 12, 13, 14}
	}
	return []int{2, 9, 10, 11, 12, 13, 14}
}

// sideSends is the kinds that a side does by itself.
func sideSends(protocol, side int) []int {
	switch {
	case side == 2:
		return []int{1, 3, 4, 5, 6, 7, 8}
	case protocol == 1:
		return []int{9, 10, 11, 12, 13, 14}
	}
	return []int{2, 9, 10, 11, 12, 13, 14}
}

// rows is a table's rows, each its cells.
func rows(table string) [][]string {
	var all [][]string
	for _, line := range strings.Split(strings.TrimSpace(table), "\n") {
		cells := strings.Split(strings.Trim(line, "|"), "|")
		for i := range cells {
			cells[i] = strings.TrimSpace(cells[i])
		}
		all = append(all, cells)
	}
	return all
}

// number is a name's number; a name that isn't known is the test's own fault.
func number(names map[string]int, name string) int {
	n, ok := names[strings.TrimSuffix(name, " (CC)")]
	if !ok {
		panic("no name: " + name)
	}
	return n
}

// named is the names of a column, or of some states with commas between them.
func named(text string) []string {
	if text == "the Failing ones" {
		return failing
	}
	return strings.Split(text, ", ")
}

// ofProtocol is the part of "of PC a, of CC b" that is of a protocol; what has no such parts is the whole.
func ofProtocol(text, between string, protocol int) string {
	pc, cc, ok := strings.Cut(text, between+"of CC ")
	switch {
	case !ok:
		return text
	case protocol == 1:
		return strings.TrimPrefix(pc, "of PC ")
	}
	return cc
}

// ofState is the part of "a: b, others: c" that is of a state; what has no such parts is the whole.
func ofState(text, state string) string {
	one, others, ok := strings.Cut(text, ", others: ")
	if !ok {
		return text
	}
	if name, cell, _ := strings.Cut(one, ": "); name == state {
		return cell
	}
	return others
}

// wordsCells is a side's table, by kind and state; a state that the side doesn't have may be there.
func wordsCells(protocol, side int) map[[2]int]tables.Cell {
	table := toldCoordinator
	if side == 2 {
		table = toldParticipant
	}
	all := rows(table)
	cells := map[[2]int]tables.Cell{}
	for _, row := range all[1:] {
		for i, column := range all[0][1:] {
			for _, state := range named(column) {
				text := ofState(ofProtocol(row[i+1], ", ", protocol), state)
				cells[[2]int{number(kinds, row[0]), states[state]}] = wordsCell(text, protocol, side, states[state])
			}
		}
	}
	return cells
}

// wordsCell is what a cell's text says.
func wordsCell(text string, protocol, side, state int) tables.Cell {
	switch text {
	case "-":
		return tables.Cell{Do: 2}
	case "x":
		return tables.Cell{Do: 4}
	case "again":
		return tables.Cell{Do: 3, Send: wordsWaits(side)[state]}
	}
	if kind, ok := kinds[text]; ok {
		return tables.Cell{Do: 3, Send: kind}
	}
	return tables.Cell{Do: 1, Next: number(states, text)}
}

// wordsWaits is what a side waits with, by state.
func wordsWaits(side int) map[int]int {
	table := waitsCoordinator
	if side == 2 {
		table = waitsParticipant
	}
	waits := map[int]int{}
	for _, row := range rows(table) {
		for _, state := range named(row[1]) {
			waits[number(states, state)] = number(kinds, row[0])
		}
	}
	return waits
}

// wordsSteps is to which state a side goes by itself, by kind and state.
func wordsSteps(protocol, side int) map[[2]int]int {
	table := doneCoordinator
	if side == 2 {
		table = doneParticipant
	}
	steps := map[[2]int]int{}
	for _, row := range rows(table) {
		in := strings.Split(ofProtocol(row[1], "; ", protocol), "; ")
		to := strings.Split(row[2], "; ")
		for i, text := range in {
			for _, state := range named(text) {
				steps[[2]int{number(kinds, row[0]), number(states, state)}] = number(states, to[min(i, len(to)-1)])
			}
		}
	}
	return steps
}

// among tells whether a number is one of a list's.
func among(n int, list []int) bool {
	for _, m := range list {
		if n == m {
			return true
		}
	}
	return false
}

// both tells whether a protocol and a side are some.
func both(protocol, side int) bool {
	return among(protocol, []int{1, 2}) && among(side, []int{1, 2})
}

// wordsLook is what Look answers by the chapter's words.
func wordsLook(protocol, side, kind, state int) (tables.Cell, error) {
	switch {
	case !both(protocol, side):
		return tables.Cell{}, api.ErrProtocol
	case !among(kind, sideTakes(protocol, side)):
		return tables.Cell{}, api.ErrForm
	case !among(state, sideStates(protocol, side)):
		return tables.Cell{}, api.ErrRange
	}
	cell, ok := wordsCells(protocol, side)[[2]int{kind, state}]
	if !ok {
		panic("no cell")
	}
	return cell, nil
}

// wordsStep is what Step answers by the chapter's words.
func wordsStep(protocol, side, kind, state int) (int, error) {
	switch {
	case !both(protocol, side):
		return 0, api.ErrProtocol
	case !among(kind, sideSends(protocol, side)):
		return 0, api.ErrForm
	case !among(state, sideStates(protocol, side)):
		return 0, api.ErrRange
	}
	next, ok := wordsSteps(protocol, side)[[2]int{kind, state}]
	if !ok {
		return 0, api.ErrState
	}
	return next, nil
}

// wordsWait is what Waits answers by the chapter's words.
func wordsWait(protocol, side, state int) (int, error) {
	switch {
	case !both(protocol, side):
		return 0, api.ErrProtocol
	case !among(state, sideStates(protocol, side)):
		return 0, api.ErrRange
	}
	return wordsWaits(side)[state], nil
}
