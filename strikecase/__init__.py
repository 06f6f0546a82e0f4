"""Pleadings: cases and strikes. The calls are in strikecase.desk."""
