"""A little language, read and run: its calls are in smalltongue.desk."""
