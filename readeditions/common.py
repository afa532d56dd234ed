"""The longest lines in common of two documents."""


def lines_in_common(lines, other_lines):
    lengths = common_lengths(lines, other_lines)
    common = []
    at = 0
    other_at = 0
    while at < len(lines) and other_at < len(other_lines):
        without_first = lengths[at + 1][other_at]
        without_other = lengths[at][other_at + 1]
        # A first line in common is taken only where both ways to leave it out are shorter.
        if lengths[at][other_at] > max(without_first, without_other):
            common.append(lines[at])
            at += 1
            other_at += 1
        elif without_first >= without_other:
            at += 1
        else:
            other_at += 1
    return common


# lengths[a][b]: how many lines are in common of the lines from a on and the other ones from b on.
def common_lengths(lines, other_lines):
    lengths = [[0] * (len(other_lines) + 1)]
    for at in range(len(lines) - 1, -1, -1):
        lengths.append(lengths_with_line(lines[at], other_lines, lengths[-1]))
    lengths.reverse()
    return lengths


def lengths_with_line(line, other_lines, behind):
    row = [0] * (len(other_lines) + 1)
    for other_at in range(len(other_lines) - 1, -1, -1):
        row[other_at] = max(behind[other_at], row[other_at + 1])
        if line == other_lines[other_at]:
            row[other_at] = max(row[other_at], 1 + behind[other_at + 1])
    return row
