"""A laboratory, whole: wholelab.desk.answers is the way in."""
